/- Two lines are compared field by field; and so the model's EndRight: is an End right; what lay in memory stands. The program's copy of options, and its first step: an end at work with rows of its own; what lay in memory stands. The model's end at work: an id more, a try less, a packet put behind those that are sent; what lay in memory stands but for those cells. -/
import Derived.Test.YtghopihgnmnlcaaGreatDoorS15
import Derived.Laws.StructEq
import Derived.Test.YtghopihgnmnlcaaGreatDoorS20
import Derived.Test.YtghopihgnmnlcaaGreatDoorS21
import Derived.Test.YtghopihgnmnlcaaGreatDoorS16
import Derived.Test.YtghopihgnmnlcaaGreatDoorS10
import Derived.Great.Walk
namespace Go.Proofs.YtghopihgnmnlcaaGreatDoor
open Go.RowKit
theorem eqL : EqL := by
  refine ⟨fun m a m' a' p c d p' c' d' W => ?_, fun x y xs ys W => run_eqGuard_agg W .eql 27 x y xs ys (by kernel_rfl)⟩
  rw [run_eql_struct, run_equalIn_agg W 9999 27 _ _ (by kernel_rfl) (by kernel_rfl)]
  cases h1 : (m == m') <;> cases h2 : (a == a') <;> cases h3 : (p == p') <;> cases h4 : (c == c') <;> cases h5 : (d == d') <;> (go_simp; try rfl)
theorem specEndRight (e : En) (x1 x2 : Option Addr) (y1 y2 : Nat) (F1 F2 : List Op.Opt) (w : World) (l1 : F1.length ≤ maxLen) (l2 : F2.length ≤ maxLen) (h1 : HoldsO w (.slice x1 F1.length y1) F1) (h2 : HoldsO w (.slice x2 F2.length y2) F2) :
    Calls Tryz.prog 36 #[.agg (enC e (.slice x1 F1.length y1) (.slice x2 F2.length y2))] w fun r w' => r = .returned (.bool (enOk e F1 F2)) ∧ Below w.heap.size w w' :=
  specEndRight_of e x1 x2 y1 y2 F1 F2 w l1 l2 h1 h2 eqL
end Go.Proofs.YtghopihgnmnlcaaGreatDoor
namespace Go.Proofs.YtghopihgnmnlcaaGreatDoor
open Go.RowKit
set_option maxHeartbeats 2000000 in
set_option maxRecDepth 100000 in
theorem iSame (v : Value) (F : List Op.Opt) (w : World) (hr : Op.right F = true) (h : HoldsO w v F) : Calls Tryz.prog 85 #[v] w fun e w' => ∃ ad cp, e = .returned (.slice ad F.length cp) ∧ w'.ownsRow w.heap.size 118 2 (.slice ad F.length cp) F.length (ocells F) ∧ Below w.heap.size w w' := by
  have hl20 : F.length ≤ 20 := by
    unfold Op.right at hr
    rw [Bool.and_eq_true] at hr
    exact of_decide_eq_true hr.1
  have hok : ∀ o ∈ F, o.data.size ≤ 20 := by
    unfold Op.right at hr
    rw [Bool.and_eq_true] at hr
    exact fun o ho => (of_decide_eq_true (List.all_eq_true.1 hr.2 o ho)).2.2
  have HH := hide h
  obtain ⟨va, vc, rfl⟩ := h.form
  obtain ⟨n, hn⟩ : ∃ n, F.length = n := ⟨_, rfl⟩
  rw [hn] at HH hl20 ⊢
  clear h hr
  go_enter Tryz.func85, Tryz.ntmps85
  go_wp2_with fail
  go_loopw [3, 8] (fun x y wr => ∃ (i : Nat) (ad : Option Addr) (cp : Nat), i ≤ n ∧ y = .int .i64 i ∧ x = .slice ad (F.take i).length cp ∧ wr.ownsRow w.heap.size 118 2 (.slice ad (F.take i).length cp) (F.take i).length (ocells (F.take i)) ∧ Below w.heap.size w wr) (fun x y wr => n - (intOf y).toNat)
  case atStart => exact ⟨0, none, 0, Nat.zero_le _, rfl, rfl, ⟨rfl, Or.inl ⟨rfl, rfl⟩⟩, Below.refl _ _⟩
  case round =>
    obtain ⟨i, ad, cp, hi, rfl, rfl, ho, hb⟩ := hrel
    have hbs := hb.size
    have HO := hide ho
    have HB := hide hb
    by_cases hlt : i < n
    · have d1 : (i : Int) < (n : Int) := by omega
      have d0 : (0 : Int) ≤ (i : Int) := by omega
      obtain ⟨g, ⟨cp', hv⟩, hgl, k0, k1⟩ := HoldsO.at ((unhide HH).below hb rfl) i (by omega)
      injection hv with hv hv2 hv3
      subst hv hv3
      clear hv2
      have hsz := hok (F[i]'(by omega)) (List.getElem_mem _)
      have HS : Hid (F.take (i + 1) = F.take i ++ [F[i]'(by omega)]) := hide (List.take_succ_eq_append_getElem (by omega))
      have hLl : (F.take i).length ≤ i := by rw [List.length_take]; omega
      generalize F[i]'(by omega) = o at *
      generalize F.take i = L at *
      obtain ⟨kd, dt⟩ := o
      dsimp only at k0 k1 hsz
      have CS := hide fun W => sameOpt kd dt W hsz
      clear ho hb HH hok
      go_wp2_with fail
      refine (unhide CS _).mono ?_
      rintro e w5 ⟨rfl, hb5⟩
      have HB5 := hide ((((unhide HB).alloc hbs _)).trans (hb5.mono (Nat.le_trans hbs (by simp))))
      have HO5 := hide (own_below ((unhide HO).alloc _) hb5)
      have hbs5 := (unhide HB5).size
      clear hb5
      go_wp2_with (first
        | (at_builtin; refine append_opt rfl _ _ rfl w.heap.size (.slice ad L.length cp) L L.length rfl rfl (unhide HO5) kd dt rfl (by omega) hbs5 ?_; rintro v6 w6 ho6 hg6; obtain ⟨a6, c6, rfl⟩ := own_form ho6))
      have hb6 : Below w.heap.size w w6 := ((unhide HB5).alloc hbs5 _).grown hg6 (by simp; omega) (fun q hq => (World.ownsRow.lt (unhide HO5) q hq).1)
      go_roundw
      case rel => exact ⟨i + 1, a6, c6, by omega, by go_num, by rw [unhide HS, List.length_append]; rfl, by rw [unhide HS, List.length_append]; exact ho6, hb6⟩
      case measure => simp [intOf]; omega
    · have e : i = n := by omega
      subst e
      have HT : Hid (F.take i = F) := hide (List.take_of_length_le (by omega))
      clear ho hb HH
      go_wp2
      go_ret
      rw [unhide HT] at HO ⊢
      rw [hn] at HO ⊢
      exact ⟨ad, cp, rfl, unhide HO, unhide HB⟩
theorem iTime (now : Int) (w : World) : Calls Tryz.prog 39 #[.int .i64 now] w fun e w' => e = .returned (.bool (within 0 1000000000 now)) ∧ w' = w := by
  have C := hide (implWithin now 0 1000000000 w)
  go_enter Tryz.func39, Tryz.ntmps39
  go_wp2_with fail
  refine (unhide C).mono ?_
  rintro r ws ⟨rfl, hws⟩
  replace hws := hws.symm
  subst hws
  go_wp2
  go_ret
  exact ⟨rfl, rfl⟩
end Go.Proofs.YtghopihgnmnlcaaGreatDoor
namespace Go.Proofs.YtghopihgnmnlcaaGreatDoor
open Go.RowKit
set_option maxHeartbeats 1000000 in
theorem wkNext (B : Nat) (cs : Array Value) (id : Int) (w : World) (hB : w.heap[B]? = some (.cells cs 91)) (hid : cs[15]? = some (.int .i64 id)) (h1 : 0 ≤ id) (h2 : id ≤ 255) :
    Calls Tryz.prog 124 #[.pointer (some ⟨B, 0, none⟩)] w fun e w' => e = .returned (.int .i64 ((id + 1) % 256)) ∧ w' = w.setCell ⟨B, 15, none⟩ (.int .i64 ((id + 1) % 256)) := by
  have c0 : w.cell? ⟨B, 15, none⟩ = some (.int .i64 id) := by rw [cell_of_row _ _ _ _ _ _ hB]; exact hid
  have f0 : w.frozen? ⟨B, 15, none⟩ = false := frz hB 15
  have hm : (id + 1).tmod 256 = (id + 1) % 256 := Int.tmod_eq_emod_of_nonneg (by omega)
  have c1 : (w.setCell ⟨B, 15, none⟩ (.int .i64 ((id + 1) % 256))).cell? ⟨B, 15, none⟩ = some (.int .i64 ((id + 1) % 256)) := by
    rw [cell_of_row _ _ _ _ _ _ (heap_setCell_same _ _ 15 _ _ _ hB), Array.getElem?_setIfInBounds, if_pos rfl, if_pos (Array.getElem?_eq_some_iff.1 hid).1]
  clear hB hid
  go_enter Tryz.func124, Tryz.ntmps124
  go_wp2
  go_ret
  exact ⟨rfl, rfl⟩
set_option maxHeartbeats 400000 in
theorem specMax0 (y : Int) (w : World) : Calls Tryz.prog 141 #[.int .i64 0, .int .i64 y] w fun e w' => e = .returned (.int .i64 (max 0 y)) ∧ w' = w := by
  by_cases h : 0 ≤ y
  · rw [Int.max_eq_right h]
    by_cases h0 : y = 0
    · subst h0
      go_enter Tryz.func141, Tryz.ntmps141
      go_wp2
      go_ret
      exact ⟨rfl, rfl⟩
    · have h1 : 0 < y := by omega
      go_enter Tryz.func141, Tryz.ntmps141
      go_wp2
      go_ret
      exact ⟨rfl, rfl⟩
  · rw [Int.max_eq_left (by omega)]
    have h1 : y < 0 := by omega
    have h2 : ¬ (0 < y) := by omega
    go_enter Tryz.func141, Tryz.ntmps141
    go_wp2
    go_ret
    exact ⟨rfl, rfl⟩
set_option maxHeartbeats 1000000 in
theorem wkTry (B : Nat) (cs : Array Value) (tr du now : Int) (w : World) (hB : w.heap[B]? = some (.cells cs 91)) (h13 : cs[13]? = some (.int .i64 tr)) (h14 : cs[14]? = some (.int .i64 du)) (h30 : cs[30]? = some (.int .i64 now)) (h1 : 0 ≤ tr) (h2 : tr ≤ 5) (h3 : 0 ≤ now) (h4 : now ≤ 1000000000) :
    Calls Tryz.prog 125 #[.pointer (some ⟨B, 0, none⟩)] w fun e w' => e = .returned (.tuple #[]) ∧ w' = (w.setCell ⟨B, 13, none⟩ (.int .i64 (max 0 (tr - 1)))).setCell ⟨B, 14, none⟩ (.int .i64 (now + 3)) := by
  have c0 : w.cell? ⟨B, 13, none⟩ = some (.int .i64 tr) := by rw [cell_of_row _ _ _ _ _ _ hB]; exact h13
  have f0 : w.frozen? ⟨B, 13, none⟩ = false := frz hB 13
  have hB1 := heap_setCell_same w B 13 _ _ (.int .i64 (max 0 (tr - 1))) hB
  have c1 : (w.setCell ⟨B, 13, none⟩ (.int .i64 (max 0 (tr - 1)))).cell? ⟨B, 30, none⟩ = some (.int .i64 now) := by
    rw [cell_of_row _ _ _ _ _ _ hB1, Array.getElem?_setIfInBounds, if_neg (by decide)]; exact h30
  have c2 : (w.setCell ⟨B, 13, none⟩ (.int .i64 (max 0 (tr - 1)))).cell? ⟨B, 14, none⟩ = some (.int .i64 du) := by
    rw [cell_of_row _ _ _ _ _ _ hB1, Array.getElem?_setIfInBounds, if_neg (by decide)]; exact h14
  have f2 : (w.setCell ⟨B, 13, none⟩ (.int .i64 (max 0 (tr - 1)))).frozen? ⟨B, 14, none⟩ = false := frz hB1 14
  have C := hide fun W => specMax0 (tr - 1) W
  clear hB hB1 h13 h14 h30
  generalize max 0 (tr - 1) = t2 at *
  go_enter Tryz.func125, Tryz.ntmps125
  go_wp2_with (first | (go_at_call 141; refine (unhide C _).mono ?_; rintro e w1 ⟨rfl, hw1⟩; replace hw1 := hw1.symm; subst hw1))
  exact Great.bodyPost_end0 rfl rfl ⟨rfl, rfl⟩
set_option maxHeartbeats 1000000 in
theorem wkPut (B base : Nat) (cs : Array Value) (vs : Value) (S : List Op.Pk) (cd id : Int) (dt : ByteArray) (w : World) (hB : w.heap[B]? = some (.cells cs 91)) (h37 : cs[37]? = some vs) (hS : S.length ≤ 1000) (ho : w.ownsRow base 35 3 vs S.length (pkcells S)) (hne : vs.ownBlock ≠ some B) (hbase : base ≤ w.heap.size) :
    Calls Tryz.prog 123 #[.pointer (some ⟨B, 0, none⟩), .int .i64 cd, .int .i64 id, .string dt] w fun e w' => e = .returned (.tuple #[]) ∧ ∃ v w1, w' = w1.setCell ⟨B, 37, none⟩ v ∧ w1.ownsRow base 35 3 v (S.length + 1) (pkcells (S ++ [⟨cd, id, dt⟩])) ∧ (w.alloc (.cells #[.int .i64 cd, .int .i64 id, .string dt] 35)).grownBy w1 vs.ownBlock := by
  have c0 : w.cell? ⟨B, 37, none⟩ = some vs := by rw [cell_of_row _ _ _ _ _ _ hB]; exact h37
  obtain ⟨ad, cp, rfl⟩ := own_form ho
  have HB := hide (And.intro hB (And.intro h37 hne))
  have HO := hide ho
  have hl : B < w.heap.size := (Array.getElem?_eq_some_iff.1 hB).1
  obtain ⟨n, hn⟩ : ∃ n, S.length = n := ⟨_, rfl⟩
  clear hB h37 hne ho
  rw [hn] at c0 HO hS HB ⊢
  go_enter Tryz.func123, Tryz.ntmps123
  go_wp2_with (first
    | (at_builtin; refine append_pk rfl _ _ rfl base (.slice ad n cp) S n hn rfl (unhide HO) cd id dt rfl hS hbase ?_; rintro v6 w6 ho6 hg6; obtain ⟨a6, c6, rfl⟩ := own_form ho6
       have e6 := (hg6.block B (by simp; omega) (fun e => (unhide HB).2.2 e.symm)).trans ((Below.heap_alloc _ _ _ hl).trans (unhide HB).1)
       have k6 : w6.cell? ⟨B, 37, none⟩ = some (.slice ad n cp) := by rw [cell_of_row _ _ _ _ _ _ e6]; exact (unhide HB).2.1
       have f6 : w6.frozen? ⟨B, 37, none⟩ = false := frz e6 37
       clear e6))
  exact Great.bodyPost_end0 rfl rfl ⟨rfl, _, w6, rfl, ho6, hg6⟩
end Go.Proofs.YtghopihgnmnlcaaGreatDoor
