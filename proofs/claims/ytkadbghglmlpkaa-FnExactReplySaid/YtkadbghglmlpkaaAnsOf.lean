/- The worst code, and the options of it: the program's answerOf; what lay in memory stands, and the answer's row is its own. -/
import Derived.Test.YtkadbghglmlpkaaVOn2
import Derived.Test.YtkadbghglmlpkaaOptApp
import Derived.Test.YtkadbghglmlpkaaAskI
namespace Go.Proofs.Ytkadbghglmlpkaa
open Go.RowKit
/-- The greatest code. -/
def mx (l : List (Int × Op.Opt)) : Int := l.foldl (fun m v => max m v.1) 2
/-- The options of a code. -/
def fl (x : Int) (l : List (Int × Op.Opt)) : List Op.Opt := (l.filter fun v => v.1 == x).map fun v => v.2
theorem mx_snoc (l : List (Int × Op.Opt)) (v : Int × Op.Opt) : mx (l ++ [v]) = max (mx l) v.1 := by unfold mx; rw [List.foldl_append]; rfl
theorem fl_snoc (x : Int) (l : List (Int × Op.Opt)) (v : Int × Op.Opt) : fl x (l ++ [v]) = fl x l ++ if v.1 == x then [v.2] else [] := by
  unfold fl
  rw [List.filter_append, List.map_append]
  congr 1
  cases h : (v.1 == x) <;> simp [h]
theorem fl_len (x : Int) (l : List (Int × Op.Opt)) : (fl x l).length ≤ l.length := by
  unfold fl
  rw [List.length_map]
  exact List.length_filter_le _ _
theorem infoAn : (Try.prog.info? 34).map (·.size) = some 2 := by kernel_rfl
theorem loadAn {W : World} {E : Nat} {x0 x1 : Value} (h : W.heap[E]? = some (.cells #[x0, x1] 34)) : (loadVar 34 ⟨E, 0, none⟩).run Try.prog W = .ok (.agg #[x0, x1]) W :=
  run_loadVar_row (P := Try.prog) _ _ 34 34 #[x0, x1] (0, 0) _ h Try.underlying34 rfl infoAn
/-- What stands while the answer is put together. -/
structure AnS (w : World) (x : Int) (v : Value) (q : World) : Prop where
  r : q.heap[w.heap.size]? = some (.cells #[.int .i64 0, .slice none 0 0] 34)
  a : q.heap[w.heap.size + 1]? = some (.cells #[.int .i64 x, v] 34)
  b : Below w.heap.size w q
theorem AnS.lt {w : World} {x : Int} {v : Value} {q : World} (h : AnS w x v q) : w.heap.size + 1 < q.heap.size := (Array.getElem?_eq_some_iff.1 h.a).1
theorem AnS.step {w : World} {x : Int} {v : Value} {q q' : World} {N : Nat} (h : AnS w x v q) (hb : Below N q q') (hN : w.heap.size + 1 < N) : AnS w x v q' :=
  ⟨(hb.block _ (by omega)).trans h.r, (hb.block _ (by omega)).trans h.a, h.b.trans (hb.mono (by omega))⟩
theorem AnS.put0 {w : World} {x : Int} {v : Value} {q : World} (h : AnS w x v q) (y : Int) : AnS w y v (q.setCell ⟨w.heap.size + 1, 0, none⟩ (.int .i64 y)) :=
  ⟨by rw [Below.heap_setCell _ _ _ _ (by simp)]; exact h.r, heap_setCell_same _ _ 0 _ _ _ h.a, h.b.setCell (p := ⟨w.heap.size + 1, 0, none⟩) (Nat.le_succ _) _⟩
theorem AnS.put1 {w : World} {x : Int} {v : Value} {q : World} (h : AnS w x v q) (y : Value) : AnS w x y (q.setCell ⟨w.heap.size + 1, 1, none⟩ y) :=
  ⟨by rw [Below.heap_setCell _ _ _ _ (by simp)]; exact h.r, heap_setCell_same _ _ 1 _ _ _ h.a, h.b.setCell (p := ⟨w.heap.size + 1, 1, none⟩) (Nat.le_succ _) _⟩
set_option maxHeartbeats 8000000 in
theorem ansOf_any (V : List (Int × Op.Opt)) (v : Value) (w : World) (hN : V.length ≤ 20) (hv : VRow 0 V v w) :
    Calls Try.prog 30 #[v] w fun e w' => ∃ ad cp, e = .returned (.agg #[.int .i64 (mx V), .slice ad (fl (mx V) V).length cp]) ∧ w'.ownsRow w.heap.size 54 2 (.slice ad (fl (mx V) V).length cp) (fl (mx V) V).length (ocells (fl (mx V) V)) ∧ Below w.heap.size w w' := by
  obtain ⟨G, cur, rfl, _, hg, hcs, hcu⟩ := hv
  have hgl : G < w.heap.size := (Array.getElem?_eq_some_iff.1 hg).1
  obtain ⟨n, hn⟩ : ∃ n, V.length = n := ⟨_, rfl⟩
  have HL : Hid (∀ i (hi : i < n) (q : World), Below w.heap.size w q → q.cell? ⟨G, i * 3, none⟩ = some (.int .i64 (V[i]'(by omega)).1) ∧ q.cell? ⟨G, i * 3 + 1, none⟩ = some (.int .i64 (V[i]'(by omega)).2.kind) ∧ q.cell? ⟨G, i * 3 + 2, none⟩ = some (.string (V[i]'(by omega)).2.data)) := by
    refine hide fun i hi q hb => ?_
    have e := (hb.block G hgl).trans hg
    have h3 := vcells_get V i (V[i]'(by omega)) (List.getElem?_eq_getElem (by omega))
    exact ⟨by rw [cell_of_row _ _ _ _ _ _ e]; exact (hcu _ (by omega)).trans h3.1, by rw [cell_of_row _ _ _ _ _ _ e]; exact (hcu _ (by omega)).trans h3.2.1, by rw [cell_of_row _ _ _ _ _ _ e]; exact (hcu _ (by omega)).trans h3.2.2⟩
  have HT : Hid (∀ i (hi : i < n), V.take (i + 1) = V.take i ++ [V[i]'(by omega)]) := hide fun i hi => List.take_succ_eq_append_getElem (by omega)
  have HA : Hid (V.take n = V) := hide (by rw [← hn]; exact List.take_length)
  obtain ⟨X, hX⟩ : ∃ X, mx V = X := ⟨_, rfl⟩
  have HX := hide hX
  rw [hn] at hN
  rw [hn, hX]
  clear hX
  obtain ⟨hs, q0, q1, hb0⟩ := start2r w (.cells #[.int .i64 0, .slice none 0 0] 34) (.cells #[.int .i64 2, .slice none 0 0] 34)
  have HQ : Hid (AnS w 2 (.slice none 0 0) ((w.alloc (.cells #[.int .i64 0, .slice none 0 0] 34)).alloc (.cells #[.int .i64 2, .slice none 0 0] 34))) := hide ⟨q0, q1, hb0⟩
  clear hs q0 q1 hb0 hg hcs hcu hgl
  go_enter Try.func30, Try.ntmps30
  go_upto_region 2 with fail
  refine gen_world _ (unhide HQ) ?_
  clear HQ
  rintro q0 hq0
  go_wp2_with fail
  go_loopw [11] (fun y wr => ∃ (i : Nat), i ≤ n ∧ y = .int .i64 i ∧ AnS w (mx (V.take i)) (.slice none 0 0) wr) (fun y _ => n - (intOf y).toNat)
  case atStart => exact ⟨0, Nat.zero_le _, rfl, hq0⟩
  case round =>
    obtain ⟨i, hi, rfl, hS⟩ := hrel
    clear hq0
    by_cases hlt : i < n
    · have d1 : (i : Int) < (n : Int) := by omega
      obtain ⟨k0, k1, k2⟩ := unhide HL i hlt wr hS.b
      have HM := hide ((congrArg mx (unhide HT i hlt)).trans (mx_snoc _ _))
      generalize V[i]'(by omega) = o at *
      obtain ⟨x, kd, dt⟩ := o
      dsimp only at k0 k1 k2
      go_upto_region 5 with fail
      refine gen_world (fun q => AnS w (mx (V.take i)) (.slice none 0 0) q ∧ q.heap[wr.heap.size]? = some (.cells #[.int .i64 x, .int .i64 kd, .string dt] 73))
        ⟨hS.step ((Below.refl _ _).alloc (Nat.le_refl _) _) hS.lt, heap_alloc_new wr _⟩ ?_
      rintro q1 ⟨hS1, hv1⟩
      generalize wr.heap.size = N1 at *
      obtain ⟨a0, a1, f0, f1⟩ := row2x hS1.a
      obtain ⟨v0, v1, v2, _, _, _⟩ := row3x hv1
      have HS1 := hide hS1
      clear hS hS1 hv1 k0 k1 k2
      generalize hm : mx (V.take i) = y at *
      go_wp2_with fail
      all_goals
        go_roundw
        case rel =>
          refine ⟨i + 1, by omega, by go_num, ?_⟩
          rw [unhide HM]
          dsimp only
          exact (unhide HS1).put0 _
        case measure => simp [intOf]; omega
    · have e : i = n := by omega
      subst e
      have d1 : ¬ ((i : Int) < (i : Int)) := by omega
      rw [unhide HA, unhide HX] at hS
      go_wp2_with fail
      go_loopw [24] (fun y wq => ∃ (j : Nat) (ad : Option Addr) (cp : Nat), j ≤ i ∧ y = .int .i64 j ∧ AnS w X (.slice ad (fl X (V.take j)).length cp) wq ∧ wq.ownsRow (w.heap.size + 1 + 1) 54 2 (.slice ad (fl X (V.take j)).length cp) (fl X (V.take j)).length (ocells (fl X (V.take j)))) (fun y _ => i - (intOf y).toNat)
      case atStart => exact ⟨0, none, 0, Nat.zero_le _, rfl, hS, ⟨rfl, Or.inl ⟨rfl, rfl⟩⟩⟩
      case round =>
        obtain ⟨j, ad, cp, hj, rfl, hQ, ho⟩ := hrel
        clear hS
        by_cases hlj : j < i
        · have d2 : (j : Int) < (i : Int) := by omega
          obtain ⟨k0, k1, k2⟩ := unhide HL j hlj wr hQ.b
          have HM := hide ((congrArg (fl X) (unhide HT j hlj)).trans (fl_snoc X _ _))
          have hln : (fl X (V.take j)).length ≤ 20 := Nat.le_trans (fl_len _ _) (by rw [List.length_take]; omega)
          generalize V[j]'(by omega) = o at *
          obtain ⟨x, kd, dt⟩ := o
          dsimp only at k0 k1 k2
          generalize fl X (V.take j) = F at *
          have hwl := hQ.lt
          go_upto_region 10 with fail
          refine gen_world (fun q => AnS w X (.slice ad F.length cp) q ∧ q.heap[wr.heap.size]? = some (.cells #[.int .i64 x, .int .i64 kd, .string dt] 73) ∧ q.ownsRow (w.heap.size + 1 + 1) 54 2 (.slice ad F.length cp) F.length (ocells F))
            ⟨hQ.step ((Below.refl _ _).alloc (Nat.le_refl _) _) hQ.lt, heap_alloc_new wr _, ho.alloc _⟩ ?_
          rintro q1 ⟨hS1, hv1, ho1⟩
          generalize wr.heap.size = N1 at *
          obtain ⟨a0, a1, f0, f1⟩ := row2x hS1.a
          obtain ⟨v0, v1, v2, _, _, _⟩ := row3x hv1
          have hs1 := hS1.lt
          have HS1 := hide (And.intro hS1 ho1)
          clear hQ hS1 hv1 k0 k1 k2 ho ho1
          cases hx : (x == X)
          · rw [hx] at HM
            go_wp2_with fail
            go_roundw
            case rel =>
              refine ⟨j + 1, ad, cp, by omega, by go_num, ?_, ?_⟩
              · rw [unhide HM, if_neg (by decide), List.append_nil]
                exact (unhide HS1).1
              · rw [unhide HM, if_neg (by decide), List.append_nil]
                exact (unhide HS1).2
            case measure => simp [intOf]; omega
          · rw [hx] at HM
            go_wp2_with (first
              | (at_builtin; refine append_opt rfl _ _ rfl (w.heap.size + 1 + 1) (.slice ad F.length cp) F F.length rfl rfl (unhide HS1).2 kd dt rfl (by omega) hs1 ?_; rintro v6 w6 ho6 hg6; obtain ⟨a6, c6, rfl⟩ := own_form ho6
                 have hb6 : Below (w.heap.size + 1 + 1) q1 w6 := ((Below.refl _ _).alloc (by omega) _).grown hg6 (by simp; omega) (fun q hq => (World.ownsRow.lt (unhide HS1).2 q hq).1)
                 have hS6 := (unhide HS1).1.step hb6 (Nat.lt_succ_self _)
                 obtain ⟨a0, a1, f0, f1⟩ := row2x hS6.a
                 have HS6 := hide (And.intro hS6 ho6)
                 clear hS6 ho6 hg6 hb6))
            go_roundw
            case rel =>
              have hl1 : F.length + 1 = (F ++ [Op.Opt.mk kd dt]).length := by rw [List.length_append]; rfl
              refine ⟨j + 1, a6, c6, by omega, by go_num, ?_, ?_⟩
              · rw [unhide HM, if_pos rfl, ← hl1]
                exact (unhide HS6).1.put1 _
              · rw [unhide HM, if_pos rfl, ← hl1]
                exact own_same (unhide HS6).2 fun q hq _ => Below.heap_setCell _ _ _ _ (by simp; omega)
            case measure => simp [intOf]; omega
        · have e : j = i := by omega
          subst e
          have d2 : ¬ ((j : Int) < (j : Int)) := by omega
          rw [unhide HA] at hQ ho
          obtain ⟨a0, a1, _, _⟩ := row2x hQ.a
          obtain ⟨r0, r1, f0, f1⟩ := row2x hQ.r
          have HQ := hide hQ
          have HO := hide ho
          clear hQ ho
          go_wp2
          refine bodyPost_ret (v := .agg #[.int .i64 X, .slice ad (fl X V).length cp]) (by simp [results, Try.results30, asAddr, loadAn (set2_at (unhide HQ).r (.int .i64 X) (.slice ad (fl X V).length cp))]) rfl ⟨ad, cp, rfl, ?_, ?_⟩
          · refine own_lower (own_same (unhide HO) fun q hq _ => ?_) (by omega)
            rw [Below.heap_setCell _ _ _ _ (by simp; omega), Below.heap_setCell _ _ _ _ (by simp; omega)]
          · exact ((unhide HQ).b.setCell (p := ⟨w.heap.size, 0, none⟩) (Nat.le_refl _) _).setCell (p := ⟨w.heap.size, 1, none⟩) (Nat.le_refl _) _
end Go.Proofs.Ytkadbghglmlpkaa
