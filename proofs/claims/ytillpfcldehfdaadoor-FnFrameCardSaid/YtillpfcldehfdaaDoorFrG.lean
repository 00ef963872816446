/- What the law FnFrame rests on, put together of four texts: stuffing of both sides, a drawn number, rows of what is found put together, the mathematics of frames; no condition but those named. -/
import Derived.Test.YtillpfcldehfdaaDoorStuff
import Derived.Test.YtillpfcldehfdaaDoorSrc
import Derived.Test.YtillpfcldehfdaaDoorHoldF
import Derived.Deep.AppendLies
import Derived.Deep.RegionHeld3
import Derived.Test.YtillpfcldehfdaaDoorDefrAll
import Derived.Test.YtillpfcldehfdaaDoorFrame
import Derived.Test.YtillpfcldehfdaaDoorDrawDf
namespace Go.Proofs.YtillpfcldehfdaaDoor
open Go.RowKit
set_option maxHeartbeats 400000 in
theorem specStuffAll (t : ByteArray) (x : Int) (w : World) (ht : t.size ≤ maxLen) :
    Calls Tryd.prog 20 #[.string t, .int .i64 x] w fun e w' => e = .returned (.string (stuffV t x)) ∧ Below w.heap.size w w' := by
  unfold maxLen at ht
  have c1 := specAccm x w
  by_cases h8 : t.size ≤ 8000
  · have d0 : ¬ ((8000 : Int) < (t.size : Int)) := by omega
    by_cases hx : accOk x = true
    · obtain ⟨a, rfl, ha⟩ := accOk_get hx
      rw [show stuffV t a = _ from if_pos ⟨h8, hx⟩, Int.toNat_natCast]
      rw [hx] at c1
      have c2 := specStuff t a w ha (by omega)
      generalize txt (Hd.stuff a t.data.toList) = V at *
      go_enter Tryd.func20, Tryd.ntmps20
      go_wp2_with (first
        | (go_at_call 55; refine c1.mono ?_; rintro e w1 ⟨rfl, rfl⟩)
        | (go_at_call 56; refine c2.mono ?_; rintro e w2 ⟨rfl, hb2⟩))
      go_ret
      exact ⟨rfl, hb2⟩
    · rw [show stuffV t x = _ from if_neg fun h => hx h.2]
      rw [Bool.not_eq_true] at hx
      rw [hx] at c1
      go_enter Tryd.func20, Tryd.ntmps20
      go_wp2_with (first
        | (go_at_call 55; refine c1.mono ?_; rintro e w1 ⟨rfl, rfl⟩))
      go_ret
      exact ⟨rfl, Below.refl _ _⟩
  · rw [show stuffV t x = _ from if_neg fun h => h8 h.1]
    have d0 : (8000 : Int) < (t.size : Int) := by omega
    go_enter Tryd.func20, Tryd.ntmps20
    go_wp2
    go_ret
    exact ⟨rfl, Below.refl _ _⟩
end Go.Proofs.YtillpfcldehfdaaDoor
namespace Go.Proofs.YtillpfcldehfdaaDoor
open Go.RowKit
set_option maxHeartbeats 1000000 in
theorem lwAt (w : World) (B : Nat) (sl : Value) (n q most : Nat) (hq : q < 1000) (hm : most < 4294967296) (hn : n ≤ maxLen) (hD : Dat w B sl n) :
    Calls Tryd.prog 15 #[sl, .int .i64 q, .int .i64 most] w fun e w' => ∃ r : Nat, e = .returned (.int .i64 r) ∧ (r < most ∨ r = 0) ∧ w' = w := by
  unfold maxLen at hn
  by_cases h1 : most ≤ 1
  · have d1 : decide ((most : Int) ≤ 1) = true := decide_eq_true (by omega)
    obtain ⟨a, cap, rfl⟩ := hD.1
    clear hD
    go_enter Tryd.func15, Tryd.ntmps15
    go_wp2
    all_goals first | (exfalso; omega) | (go_ret; exact ⟨0, rfl, Or.inr rfl, rfl⟩)
  · have d1 : decide ((most : Int) ≤ 1) = false := decide_eq_false (by omega)
    by_cases h0 : n = 0
    · obtain ⟨a, cap, rfl⟩ := hD.1
      clear hD
      have d2 : ((n : Int) == 0) = true := beq_iff_eq.2 (by omega)
      go_enter Tryd.func15, Tryd.ntmps15
      go_wp2
      all_goals first | (exfalso; omega) | (go_ret; exact ⟨0, rfl, Or.inr rfl, rfl⟩)
    · have hlt : q % n < n := Nat.mod_lt _ (by omega)
      obtain ⟨b, o, cap, x, rfl, hb, hx, hx2⟩ := hD.2 (q % n) hlt
      have d2 : ((n : Int) == 0) = false := beq_eq_false_iff_ne.2 (by omega)
      have e1 : (q : Int) % (n : Int) = ((q % n : Nat) : Int) := rfl
      clear hD
      generalize q % n = k at *
      have hk : (k : Int) < (n : Int) := by omega
      go_enter Tryd.func15, Tryd.ntmps15
      go_wp2
      go_ret
      exact ⟨x % most, rfl, Or.inl (Nat.mod_lt _ (by omega)), rfl⟩
end Go.Proofs.YtillpfcldehfdaaDoor
namespace Go.Proofs.YtillpfcldehfdaaDoor
open Go.RowKit
theorem run_append_fd {W : World} {base : Nat} {v s : Value} {G F : List Hd.Fd} (ty : TypeId) (hown : W.ownsRow base 44 2 v G.length (fcells G)) (hs : HoldsF W s F) (hG : G.length ≤ 1000) (hF : F.length ≤ 1000) (hbase : base ≤ W.heap.size) :
    ∃ v' W', (Builtin.append_ #[39, 39] ty #[v, s]).run Tryd.prog W = .ok v' W' ∧ W'.ownsRow base 44 2 v' (G ++ F).length (fcells (G ++ F)) ∧ W.grownBy W' v.ownBlock := by
  obtain ⟨i, hi, hz, hsz, hby⟩ := finfo
  have key : ∀ (a : Addr) (cp : Nat), s = .slice (some a) F.length cp → (∀ j u, (fcells F)[j]? = some u → W.cell? (a.add j) = some u) →
      ∃ v' W', (Builtin.append_ #[39, 39] ty #[v, s]).run Tryd.prog W = .ok v' W' ∧ W'.ownsRow base 44 2 v' (G ++ F).length (fcells (G ++ F)) ∧ W.grownBy W' v.ownBlock := by
    rintro a cp rfl hn
    obtain ⟨v', W', h1, h2, h3, _⟩ := run_append_own (P := Tryd.prog) W base 39 ty 44 i _ 2 24 Tryd.underlying39 hi hz hsz hby rfl (by decide) v G.length (fcells G) hown a F.length cp (fcells F) (fcells_len F) hn (fcells_one F)
      (by unfold maxLen; omega) (by omega) hbase
    exact ⟨v', W', h1, by rw [List.length_append, fcells_append]; exact h2, h3⟩
  rcases hs with ⟨ad, cp, rfl, rfl⟩ | ⟨g, cp, cur, rfl, hg, hg2, hg3⟩
  · cases ad with
    | some a => exact key a cp rfl (fun j u h => by cases h)
    | none =>
      refine ⟨v, W, ?_, by rw [List.append_nil]; exact hown, ⟨rfl, rfl, rfl, Nat.le_refl _, fun _ _ _ => rfl⟩⟩
      rcases hown.2 with ⟨rfl, _⟩ | ⟨g, cap, cur, rfl, _, _, hnc, _⟩
      · simp [Builtin.append_, run_underlying Tryd.underlying39, sizeOf, typeInfo, hi, Builtin.lenOf, Builtin.firstCells]
      · simp [Builtin.append_, run_underlying Tryd.underlying39, sizeOf, typeInfo, hi, Builtin.lenOf, Builtin.firstCells, hnc, storeCells]
  · refine key ⟨g, 0, none⟩ cp rfl (fun j u h => ?_)
    have hadd : (⟨g, 0, none⟩ : Addr).add j = ⟨g, j, none⟩ := by unfold Addr.add; split <;> simp_all
    rw [hadd, cell_of_row _ _ _ _ _ _ hg, hg3 j (by have := (List.getElem?_eq_some_iff.1 h).1; rw [fcells_len] at this; exact this)]
    exact h
theorem step_append_fd {ops : Array Oper} {o : Oper} {a : Act} {K : Act → World → Prop} {Q : Exit → Act → World → Prop} {E : Prop} (w : World) (hgd : o.guard = none) (s x : Operand)
    (ho : o.op = .call { callee := .builtin .append, args := #[s, x], argTypes := #[39, 39] }) (base : Nat) (v sv : Value) (G F : List Hd.Fd) (hs : a.eval s = v) (hx : a.eval x = sv)
    (hown : w.ownsRow base 44 2 v G.length (fcells G)) (hsv : HoldsF w sv F) (hG : G.length ≤ 1000) (hF : F.length ≤ 1000) (hbase : base ≤ w.heap.size)
    (h : ∀ v' w', w'.ownsRow base 44 2 v' (G ++ F).length (fcells (G ++ F)) → w.grownBy w' v.ownBlock → K (a.put o.dst v') w') :
    if Region.wanted o (yielded ops a.tmps) = true then Oper.wp Tryd.prog o a w K Q else E := by
  have hw : Region.wanted o (yielded ops a.tmps) = true := by simp [Region.wanted, hgd]
  rw [if_pos hw]
  obtain ⟨v', w', hr, h2, h3⟩ := run_append_fd (W := w) o.type hown hsv hG hF hbase
  unfold Oper.wp execOp
  simp only [ho, resolve, invoke, builtin, Sem.run_bind, Sem.run_pure, Result.andThen_ok, List.map_toArray, List.map_cons, List.map_nil, hs, hx, hr]
  exact h v' w' h2 h3
end Go.Proofs.YtillpfcldehfdaaDoor
namespace Go.Proofs.YtillpfcldehfdaaDoor
open Go.RowKit
theorem ba_ext {a b : ByteArray} (h : a.data.toList = b.data.toList) : a = b := by
  rw [← txt_data a, ← txt_data b, h]
theorem list_append (a b : ByteArray) : (a ++ b).data.toList = a.data.toList ++ b.data.toList := by simp
theorem list_extract (a : ByteArray) (i j : Nat) : (a.extract i j).data.toList = (a.data.toList.drop i).take (j - i) := by
  rw [ByteArray.data_extract, Array.toList_extract]
theorem list_size (a : ByteArray) : a.data.toList.length = a.size := Array.length_toList ..
theorem good_tail (t : ByteArray) (b : Bool) (ht : t.size ≤ 300) : goodV (t ++ tailB t.data.toList b) b = true := by
  have hs : (t ++ tailB t.data.toList b).size = t.size + tailN b := by rw [ByteArray.size_append, tailB_size]
  have hk : tailN b ≤ 4 := by cases b <;> decide
  have hl := list_size t
  have hl2 : (tailB t.data.toList b).data.toList.length = tailN b := (list_size _).trans (tailB_size _ _)
  have e1 : (t ++ tailB t.data.toList b).extract t.size (t.size + tailN b) = tailB t.data.toList b := by
    apply ba_ext
    rw [list_extract, list_append, ← hl, List.drop_left, show t.data.toList.length + tailN b - t.data.toList.length = tailN b by omega, ← hl2, List.take_length]
  have e2 : (t ++ tailB t.data.toList b).extract 0 t.size = t := by
    apply ba_ext
    rw [list_extract, list_append, List.drop_zero, Nat.sub_zero, ← hl, List.take_left]
  unfold goodV
  rw [if_pos ⟨by omega, by omega⟩, hs, Nat.add_sub_cancel, e1, e2]
  unfold tailV
  rw [if_pos (by omega)]
  simp
theorem frame_list (t : ByteArray) (a : Nat) (b : Bool) :
    ((⟨#[126]⟩ : ByteArray) ++ txt (Hd.stuff a (t ++ tailB t.data.toList b).data.toList) ++ (⟨#[126]⟩ : ByteArray)).data.toList = Hd.frame a (t.data.toList ++ (tailB t.data.toList b).data.toList) := by
  rw [list_append, list_append, data_txt, list_append]
  rfl
theorem rightV_of {x : Int} {S : Hd.St} (hx : accOk x = true) (hR : Hd.Right S) : rightV x S.inn S.esc S.long (txt S.held) = true := by
  obtain ⟨h1, h2⟩ := hR
  obtain ⟨i, s, l, h⟩ := S
  dsimp only at h1 h2 ⊢
  unfold rightV
  rw [hx, txt_size, decide_eq_true h1]
  cases i
  · obtain ⟨rfl, rfl, rfl⟩ := h2 rfl
    rfl
  · rfl
theorem st_eta (S : Hd.St) : (⟨S.inn, S.esc, S.long, (txt S.held).data.toList⟩ : Hd.St) = S := rfl
theorem right_to {x : Int} {i s l : Bool} {u : ByteArray} (h : rightV x i s l u = true) : accOk x = true ∧ Hd.Right ⟨i, s, l, u.data.toList⟩ := by
  unfold rightV at h
  rw [Bool.and_eq_true, Bool.and_eq_true] at h
  obtain ⟨h1, h2, h3⟩ := h
  refine ⟨h1, by have := of_decide_eq_true h2; have := list_size u; dsimp only; omega, fun hi => ?_⟩
  dsimp only at hi ⊢
  subst hi
  rw [Bool.false_or, Bool.and_eq_true, Bool.and_eq_true] at h3
  have h4 := of_decide_eq_true h3.2.2
  refine ⟨by simpa using h3.1, by simpa using h3.2.1, ?_⟩
  apply List.eq_nil_of_length_eq_zero
  rw [list_size]
  omega
theorem ans_yes {wd : Bool} {x : Int} {i s l : Bool} {u t : ByteArray} (ht : t.size ≤ 402) (h : rightV x i s l u = true) :
    ansOf wd x i s l u t = ⟨wd, x, (Hd.run x.toNat ⟨i, s, l, u.data.toList⟩ t.data.toList).inn, (Hd.run x.toNat ⟨i, s, l, u.data.toList⟩ t.data.toList).esc, (Hd.run x.toNat ⟨i, s, l, u.data.toList⟩ t.data.toList).long, txt (Hd.run x.toNat ⟨i, s, l, u.data.toList⟩ t.data.toList).held, Hd.finds (gd wd) x.toNat ⟨i, s, l, u.data.toList⟩ t.data.toList, 0⟩ := by
  unfold ansOf
  rw [if_pos (by omega), if_pos h, List.take_of_length_le]
  have h1 := Hd.finds_le (gd wd) x.toNat t.data.toList ⟨i, s, l, u.data.toList⟩
  rw [list_size] at h1
  omega
theorem ans_no {wd : Bool} {x : Int} {i s l : Bool} {u t : ByteArray} (ht : t.size ≤ 402) (h : rightV x i s l u = false) : ansOf wd x i s l u t = ⟨false, 0, false, false, false, ⟨#[]⟩, [], 1⟩ := by
  unfold ansOf
  rw [if_pos (by omega), if_neg (by rw [h]; decide)]
/-- The answer behind two parts is that behind the whole. -/
theorem parts {wd : Bool} {x : Int} {i s l : Bool} {u t : ByteArray} (ht : t.size ≤ 402) (h : rightV x i s l u = true) (k : Nat) (hk : k ≤ t.size) (A1 A2 A3 : Ans) (h1 : ansOf wd x i s l u t = A1) (h2 : ansOf wd x i s l u (t.extract 0 k) = A2)
    (h3 : ansOf A2.wide A2.x A2.inn A2.esc A2.long A2.text (t.extract k t.size) = A3) :
    (A3.wide = A1.wide ∧ A3.x = A1.x ∧ A3.inn = A1.inn ∧ A3.esc = A1.esc ∧ A3.long = A1.long ∧ A3.text = A1.text) ∧ A1.F = A2.F ++ A3.F ∧ rightV A1.x A1.inn A1.esc A1.long A1.text = true ∧ A1.code = 0 ∧ A2.text.size ≤ 304 ∧ A1.text.size ≤ 304 ∧ A1.F.length ≤ 201 := by
  obtain ⟨hx, hR⟩ := right_to h
  have e1 : (t.extract 0 k).data.toList = t.data.toList.take k := by rw [list_extract, List.drop_zero, Nat.sub_zero]
  have e2 : (t.extract k t.size).data.toList = t.data.toList.drop k := by
    rw [list_extract]
    apply List.take_of_length_le
    rw [List.length_drop, list_size]
    exact Nat.le_refl _
  have s1 : (t.extract 0 k).size ≤ 402 := by rw [← list_size, e1, List.length_take, list_size]; omega
  have s2 : (t.extract k t.size).size ≤ 402 := by rw [← list_size, e2, List.length_drop, list_size]; omega
  have hfl := Hd.finds_le (gd wd) x.toNat t.data.toList ⟨i, s, l, u.data.toList⟩
  rw [list_size] at hfl
  have hR1 := Hd.run_right x.toNat t.data.toList _ hR
  have hR2 := Hd.run_right x.toNat (t.data.toList.take k) _ hR
  rw [ans_yes ht h] at h1
  rw [ans_yes s1 h, e1] at h2
  subst h1 h2
  dsimp only at h3 ⊢
  rw [ans_yes s2 (rightV_of hx hR2), e2, st_eta] at h3
  subst h3
  dsimp only
  have ea : t.data.toList = t.data.toList.take k ++ t.data.toList.drop k := (List.take_append_drop k _).symm
  have er : Hd.run x.toNat ⟨i, s, l, u.data.toList⟩ t.data.toList = Hd.run x.toNat (Hd.run x.toNat ⟨i, s, l, u.data.toList⟩ (t.data.toList.take k)) (t.data.toList.drop k) := by
    rw [← Hd.run_append, List.take_append_drop]
  have ef : Hd.finds (gd wd) x.toNat ⟨i, s, l, u.data.toList⟩ t.data.toList = Hd.finds (gd wd) x.toNat ⟨i, s, l, u.data.toList⟩ (t.data.toList.take k) ++ Hd.finds (gd wd) x.toNat (Hd.run x.toNat ⟨i, s, l, u.data.toList⟩ (t.data.toList.take k)) (t.data.toList.drop k) := by
    rw [← Hd.finds_append, List.take_append_drop]
  refine ⟨⟨rfl, rfl, ?_, ?_, ?_, ?_⟩, ef, rightV_of hx hR1, rfl, ?_, ?_, by omega⟩
  · rw [er]
  · rw [er]
  · rw [er]
  · rw [er]
  · rw [txt_size]; exact hR2.1
  · rw [txt_size]; exact hR1.1
/-- A framed text is found, and nothing else. -/
theorem frame_ans (t : ByteArray) (x : Int) (b : Bool) (h : frameV t x b ≠ ⟨#[]⟩) :
    (ansOf b x false false false ⟨#[]⟩ (frameV t x b)).F = [⟨1, t.data.toList⟩] ∧ (ansOf b x false false false ⟨#[]⟩ (frameV t x b)).code = 0 ∧ t.size ≤ 300 ∧ accOk x = true := by
  by_cases hc : 1 ≤ t.size ∧ t.size ≤ 300 ∧ accOk x = true
  · have hf : frameV t x b = ⟨#[126]⟩ ++ txt (Hd.stuff x.toNat (t ++ tailB t.data.toList b).data.toList) ++ ⟨#[126]⟩ := if_pos hc
    obtain ⟨c1, c2, c3⟩ := hc
    have hsz := stuff_sz x.toNat (t ++ tailB t.data.toList b)
    have hk : tailN b ≤ 4 := by cases b <;> decide
    have hl2 : (tailB t.data.toList b).data.toList.length = tailN b := (list_size _).trans (tailB_size _ _)
    rw [ByteArray.size_append, tailB_size] at hsz
    have h8 : (frameV t x b).size ≤ 8000 := by
      rw [hf, ByteArray.size_append, ByteArray.size_append]
      show 1 + _ + 1 ≤ 8000
      omega
    have hr : rightV x false false false ⟨#[]⟩ = true := rightV_of (S := ⟨false, false, false, []⟩) c3 ⟨Nat.zero_le _, fun _ => ⟨rfl, rfl, rfl⟩⟩
    have hfd : Hd.finds (gd b) x.toNat ⟨false, false, false, []⟩ (frameV t x b).data.toList = [⟨1, t.data.toList⟩] := by
      rw [hf, frame_list]
      refine Hd.frame_found (gd b) x.toNat t.data.toList (tailB t.data.toList b).data.toList hl2 (by rw [list_size]; exact c1) (by rw [List.length_append, list_size, hl2]; omega) ?_
      show goodV (txt (t.data.toList ++ (tailB t.data.toList b).data.toList)) b = true
      rw [← list_append, txt_data]
      exact good_tail t b c2
    unfold ansOf
    rw [if_pos h8, if_pos hr]
    refine ⟨?_, rfl, c2, c3⟩
    show (Hd.finds (gd b) x.toNat ⟨false, false, false, []⟩ (frameV t x b).data.toList).take 400 = _
    rw [hfd]
    rfl
  · exact absurd (show frameV t x b = ⟨#[]⟩ from if_neg hc) h
theorem defrWord : DefrWord := fun wide x t v ht => (specDefrAll wide x false false false ⟨#[]⟩ t v (Nat.zero_le _) (by unfold maxLen; omega)).mono fun e w' ⟨sv, he, hh, hb⟩ => by
  obtain ⟨ad, cp, rfl⟩ := hh.1.form
  refine ⟨_, _, _, _, _, _, _, _, _, _, he, ?_, hb⟩
  cases hr : rightV x false false false ⟨#[]⟩
  · rw [show ansOf wide x false false false ⟨#[]⟩ t = _ from (if_pos ht).trans (if_neg (by rw [hr]; decide))]
    exact Nat.zero_le _
  · rw [show ansOf wide x false false false ⟨#[]⟩ t = _ from (if_pos ht).trans (if_pos hr)]
    show (txt _).size ≤ 304
    rw [txt_size]
    exact (Hd.run_right x.toNat t.data.toList _ (right_to hr).2).1
end Go.Proofs.YtillpfcldehfdaaDoor
