/- BundleNew: the program's and the model's; what lay in memory stands. -/
import Derived.Test.YtmcabmddnalihaaBdT
import Derived.Test.YtmcabmddnalihaaBdRp
import Derived.Test.YtmcabmddnalihaaFgA
namespace Go.Proofs.Ytmcabmddnalihaa
open Go.RowKit
/-- The links of a new bundle. -/
def bnL (x : Int) : List Int := if 1 ≤ x ∧ x ≤ 8 then List.replicate x.toNat (-1) else []
theorem bnL_no {x : Int} (h : ¬ (1 ≤ x ∧ x ≤ 8)) : bnL x = [] := if_neg h
theorem bnL_yes {n : Nat} (h : 1 ≤ n ∧ n ≤ 8) : bnL (n : Int) = List.replicate n (-1) := by
  unfold bnL
  rw [if_pos (by omega), Int.toNat_natCast]
/-- A new bundle, in memory of its own. -/
def AnB (L : List Int) (w : World) (e : Ending) (w' : World) : Prop :=
  ∃ u1 z1, e = .returned (.agg #[.slice u1 L.length z1, .slice none 0 0]) ∧ HoldsI w' (.slice u1 L.length z1) L ∧ (∀ g, (Value.slice u1 L.length z1).ownBlock = some g → w.heap.size ≤ g) ∧ Below w.heap.size w w'
set_option maxHeartbeats 2000000 in
theorem iBnew_no (x : Int) (w : World) (h : ¬ (1 ≤ x ∧ x ≤ 8)) : Calls Try.prog 21 #[.int .i64 x] w (AnB (bnL x) w) := by
  have C := hide fun v => iWithin9 x 1 8 v
  rw [wo h] at C
  rw [bnL_no h]
  go_enter Try.func21, Try.ntmps21
  go_wp2_with fail
  refine (unhide C _).mono ?_
  rintro e w2 ⟨rfl, rfl⟩
  go_wp2
  refine bodyPost_ret (v := .agg #[.slice none 0 0, .slice none 0 0]) (by simp [results, Try.results21, go_sem]) rfl ?_
  exact ⟨none, 0, rfl, Or.inl ⟨_, _, rfl, rfl⟩, (fun g hg => by cases hg), (Below.refl _ _).alloc (Nat.le_refl _) _⟩
theorem rw1_cells (n : Nat) : rw1 n n = icells (List.replicate n (-1)) := by
  unfold rw1 icells
  simp
set_option maxHeartbeats 2000000 in
theorem iBnew_yes (n : Nat) (w : World) (h : 1 ≤ n ∧ n ≤ 8) : Calls Try.prog 21 #[.int .i64 n] w (AnB (bnL n) w) := by
  have C := hide fun v => iWithin9 (n : Int) 1 8 v
  rw [wi (by omega)] at C
  rw [bnL_yes h]
  have CR := hide fun v B hB => rep n h v B hB
  have hlen : (List.replicate n (-1 : Int)).length = n := List.length_replicate
  have q := hide (new2b w (.cells #[.slice none 0 0, .slice none 0 0] 39) (.cells #[.int .i64 (-1)] 2))
  unfold AnB
  rw [hlen]
  go_enter Try.func21, Try.ntmps21
  go_wp2_with fail
  refine (unhide C _).mono ?_
  rintro e w2 ⟨rfl, hw⟩
  replace hw := hw.symm
  subst hw
  go_wp2_with fail
  refine (unhide CR _ _ (unhide q).2.1).mono ?_
  rintro e w3 ⟨rfl, hr3, hb3⟩
  have hz : ((w.alloc (.cells #[.slice none 0 0, .slice none 0 0] 39)).alloc (.cells #[.int .i64 (-1)] 2)).heap.size = w.heap.size + 2 := (unhide q).2.2.2
  rw [hz] at hr3
  have hO := (hb3.block w.heap.size (by rw [hz]; omega)).trans (unhide q).1
  have HX := hide (And.intro hr3 (And.intro hO ((unhide q).2.2.1.trans (hb3.mono (by rw [hz]; omega)))))
  obtain ⟨o0, o1⟩ := row2b hO
  have f0 := frz hO 0
  have f1 := frz hO 1
  clear hr3 hb3 hO q CR C
  rw [hz]
  go_wp2
  refine bodyPost_ret (v := .agg #[.slice (some ⟨w.heap.size + 2, 0, none⟩) n n, .slice none 0 0]) (by simp [results, Try.results21, asAddr, loadB (set2_bd (unhide HX).2.1 (.slice (some ⟨w.heap.size + 2, 0, none⟩) n n) (.slice none 0 0))]) rfl ?_
  obtain ⟨h1, h2, h3⟩ := unhide HX
  refine ⟨_, _, rfl, Or.inr ⟨w.heap.size + 2, n, (rw1 n n).toArray, by rw [hlen], ?_, by rw [hlen, List.size_toArray, rw1_len n n (Nat.le_refl _)]; exact Nat.le_refl _, fun j hj => by rw [List.getElem?_toArray, rw1_cells]⟩, ?_, ?_⟩
  · rw [heap_setCell_other _ _ _ _ (by show w.heap.size + 2 ≠ w.heap.size; omega), heap_setCell_other _ _ _ _ (by show w.heap.size + 2 ≠ w.heap.size; omega)]
    exact h1
  · intro g hg
    have e : w.heap.size + 2 = g := by injection hg
    omega
  · exact (h3.setCell (p := ⟨w.heap.size, 0, none⟩) (Nat.le_refl _) _).setCell (p := ⟨w.heap.size, 1, none⟩) (Nat.le_refl _) _
theorem iBnew (x : Int) (w : World) : Calls Try.prog 21 #[.int .i64 x] w (AnB (bnL x) w) := by
  by_cases h : 1 ≤ x ∧ x ≤ 8
  · obtain ⟨n, rfl⟩ : ∃ n : Nat, x = (n : Int) := ⟨x.toNat, by omega⟩
    exact iBnew_yes n w (by omega)
  · exact iBnew_no x w h
theorem rep_snoc (k : Nat) : List.replicate (k + 1) (-1 : Int) = List.replicate k (-1) ++ [-1] := List.replicate_succ'
set_option maxHeartbeats 2000000 in
theorem sBnew_no (x : Int) (w : World) (h : ¬ (1 ≤ x ∧ x ≤ 8)) : Calls Try.prog 20 #[.int .i64 x] w (AnB (bnL x) w) := by
  rw [bnL_no h]
  have q := hide (new2b w (.cells #[.slice none 0 0, .slice none 0 0] 39) (.cells #[.slice none 0 0, .slice none 0 0] 39))
  have hd : decide ((0 : Int) < x) = true → decide (x ≤ 8) = false := fun e => decide_eq_false (by have := of_decide_eq_true e; omega)
  cases h0 : decide ((0 : Int) < x)
  · clear hd
    go_enter Try.func20, Try.ntmps20
    go_wp2_with fail
    go_loopw [4] (fun v wr => v = .int .i64 0 ∧ wr = (w.alloc (.cells #[.slice none 0 0, .slice none 0 0] 39)).alloc (.cells #[.slice none 0 0, .slice none 0 0] 39)) (fun _ _ => 0)
    case atStart => exact ⟨rfl, rfl⟩
    case round =>
      obtain ⟨rfl, rfl⟩ := hrel
      go_wp2
      refine bodyPost_ret (v := .agg #[.slice none 0 0, .slice none 0 0]) (by simp [results, Try.results20, go_sem]) rfl ?_
      refine ⟨none, 0, rfl, Or.inl ⟨_, _, rfl, rfl⟩, (fun g hg => by cases hg), ?_⟩
      exact ((Below.refl _ _).alloc (Nat.le_refl _) _).alloc (by simp) _
  · have hd' := hd h0
    clear hd
    go_enter Try.func20, Try.ntmps20
    go_wp2_with fail
    go_loopw [4] (fun v wr => v = .int .i64 0 ∧ wr = (w.alloc (.cells #[.slice none 0 0, .slice none 0 0] 39)).alloc (.cells #[.slice none 0 0, .slice none 0 0] 39)) (fun _ _ => 0)
    case atStart => exact ⟨rfl, rfl⟩
    case round =>
      obtain ⟨rfl, rfl⟩ := hrel
      go_wp2
      refine bodyPost_ret (v := .agg #[.slice none 0 0, .slice none 0 0]) (by simp [results, Try.results20, go_sem]) rfl ?_
      refine ⟨none, 0, rfl, Or.inl ⟨_, _, rfl, rfl⟩, (fun g hg => by cases hg), ?_⟩
      exact ((Below.refl _ _).alloc (Nat.le_refl _) _).alloc (by simp) _
theorem bn_grow {w wr w6 : World} {oa ob o : Obj} {v : Value} {k : Nat} {cs : List Value} {T : TypeId} {m : Nat} (h : wr.heap[w.heap.size]? = some oa ∧ wr.heap[w.heap.size + 1]? = some ob ∧ wr.ownsRow (w.heap.size + 2) T m v k cs ∧ Below w.heap.size w wr) (hg : (wr.alloc o).grownBy w6 v.ownBlock) :
    w6.heap[w.heap.size]? = some oa ∧ w6.heap[w.heap.size + 1]? = some ob ∧ Below w.heap.size w w6 := by
  have hl := (Array.getElem?_eq_some_iff.1 h.2.1).1
  have hb : Below (w.heap.size + 2) wr w6 := ((Below.refl _ _).alloc (by omega) _).grown hg (by simp; omega) (fun q hq => (World.ownsRow.lt h.2.2.1 q hq).1)
  exact ⟨(hb.block _ (by omega)).trans h.1, (hb.block _ (by omega)).trans h.2.1, h.2.2.2.trans (hb.mono (by omega))⟩
set_option maxHeartbeats 2000000 in
theorem sBnew_yes (n : Nat) (w : World) (h : 1 ≤ n ∧ n ≤ 8) : Calls Try.prog 20 #[.int .i64 n] w (AnB (bnL n) w) := by
  rw [bnL_yes h]
  have hlen : (List.replicate n (-1 : Int)).length = n := List.length_replicate
  have q := hide (new2b w (.cells #[.slice none 0 0, .slice none 0 0] 39) (.cells #[.slice none 0 0, .slice none 0 0] 39))
  unfold AnB
  rw [hlen]
  have d8 : decide ((n : Int) ≤ 8) = true := decide_eq_true (by omega)
  have n1 : ¬ (w.heap.size = w.heap.size + 1) := by omega
  have n2 : ¬ (w.heap.size + 1 = w.heap.size) := by omega
  go_enter Try.func20, Try.ntmps20
  go_wp2_with fail
  go_loopw [4] (fun v wr => ∃ (k : Nat) (ad : Option Addr) (cp : Nat), k ≤ n ∧ v = .int .i64 k ∧ wr.heap[w.heap.size]? = some (.cells #[.slice none 0 0, .slice none 0 0] 39) ∧ wr.heap[w.heap.size + 1]? = some (.cells #[.slice ad k cp, .slice none 0 0] 39) ∧ wr.ownsRow (w.heap.size + 2) 2 1 (.slice ad k cp) k (icells (List.replicate k (-1))) ∧ Below w.heap.size w wr) (fun v _ => n - (intOf v).toNat)
  case atStart => exact ⟨0, none, 0, Nat.zero_le _, rfl, (unhide q).1, (unhide q).2.1, ⟨rfl, Or.inl ⟨rfl, rfl⟩⟩, (unhide q).2.2.1⟩
  case round =>
    obtain ⟨k, ad, cp, hk, rfl, hO, hB, how, hb⟩ := hrel
    clear q
    obtain ⟨o0, o1⟩ := row2b hO
    obtain ⟨b0, b1⟩ := row2b hB
    have hl1 : w.heap.size + 1 < wr.heap.size := (Array.getElem?_eq_some_iff.1 hB).1
    by_cases hlt : k < n
    · have d1 : decide ((k : Int) < (n : Int)) = true := decide_eq_true (by omega)
      have f0 := frz hB 0
      have hne : ¬ (w.heap.size + 1 = wr.heap.size) := by omega
      have hne' : ¬ (wr.heap.size = w.heap.size + 1) := by omega
      have HX := hide (And.intro hO (And.intro hB (And.intro how hb)))
      clear hO hB how hb o0 o1
      go_wp2_with (first
        | (at_builtin; refine append_int rfl _ _ rfl (w.heap.size + 2) (.slice ad k cp) (List.replicate k (-1)) k List.length_replicate rfl (unhide HX).2.2.1 (-1) rfl (by omega) (by omega) ?_; rintro v6 w6 ho6 hg6; obtain ⟨a6, c6, rfl⟩ := own_form ho6
           obtain ⟨hO6, hB6, hb6⟩ := bn_grow (unhide HX) hg6
           obtain ⟨e0, e1⟩ := row2b hB6
           have g0 := frz hB6 0
           have HY := hide (And.intro hO6 (And.intro hB6 (And.intro ho6 hb6)))
           clear hO6 hB6 hb6 ho6 hg6 b0 b1 f0))
      obtain ⟨h1, h2, h3, h4⟩ := unhide HY
      refine ⟨⟨k + 1, a6, c6, by omega, by go_num, ?_, heap_setCell_same _ _ 0 _ _ _ h2, ?_, h4.setCell (p := ⟨w.heap.size + 1, 0, none⟩) (by show w.heap.size ≤ w.heap.size + 1; omega) _⟩, by simp [intOf]; omega⟩
      · rw [heap_setCell_other _ _ _ _ (by show w.heap.size ≠ w.heap.size + 1; omega)]
        exact h1
      · rw [rep_snoc]
        exact ownsRow_setCell_below h3 (by show w.heap.size + 1 < w.heap.size + 2; omega) _
    · have e : k = n := by omega
      subst e
      have d1 : decide ((k : Int) < (k : Int)) = false := decide_eq_false (by omega)
      have f0 := frz hO 0
      have f1 := frz hO 1
      have HX := hide (And.intro hO (And.intro hB (And.intro how hb)))
      clear hO hB how hb
      go_wp2
      refine bodyPost_ret (v := .agg #[.slice ad k cp, .slice none 0 0]) (by simp [results, Try.results20, asAddr, loadB (set2_bd (unhide HX).1 (.slice ad k cp) (.slice none 0 0))]) rfl ?_
      obtain ⟨h1, h2, h3, h4⟩ := unhide HX
      have hge : ∀ g, (Value.slice ad k cp).ownBlock = some g → w.heap.size + 2 ≤ g := fun g hg => (World.ownsRow.lt h3 g hg).1
      refine ⟨ad, cp, rfl, ?_, fun g hg => by have := hge g hg; omega, ?_⟩
      · have h5 : HoldsI wr (.slice ad k cp) (List.replicate k (-1)) := HoldsI.own (by rw [hlen]; exact h3)
        exact (h5.set (a := ⟨w.heap.size, 0, none⟩) (fun g hg => by have := hge g hg; show g ≠ w.heap.size; omega) _).set (a := ⟨w.heap.size, 1, none⟩) (fun g hg => by have := hge g hg; show g ≠ w.heap.size; omega) _
      · exact (h4.setCell (p := ⟨w.heap.size, 0, none⟩) (Nat.le_refl _) _).setCell (p := ⟨w.heap.size, 1, none⟩) (Nat.le_refl _) _
theorem sBnew (x : Int) (w : World) : Calls Try.prog 20 #[.int .i64 x] w (AnB (bnL x) w) := by
  by_cases h : 1 ≤ x ∧ x ≤ 8
  · obtain ⟨n, rfl⟩ : ∃ n : Nat, x = (n : Int) := ⟨x.toNat, by omega⟩
    exact sBnew_yes n w (by omega)
  · exact sBnew_no x w h
end Go.Proofs.Ytmcabmddnalihaa
