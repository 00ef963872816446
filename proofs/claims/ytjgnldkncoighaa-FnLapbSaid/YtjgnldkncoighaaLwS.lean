/- The program's copies of texts, and all the texts of an end at work, in a row of their own; what lay in memory stands. -/
import Derived.Test.YtjgnldkncoighaaLwT
namespace Go.Proofs.Ytjgnldkncoighaa
open Go.RowKit
set_option maxHeartbeats 4000000 in
theorem iSameT (v : Value) (L : List ByteArray) (w : World) (hl : L.length ≤ 20) (hz : ∀ t ∈ L, t.size ≤ 200) (h : HoldsS w v L) :
    Calls Try.prog 52 #[v] w fun e w' => ∃ u, e = .returned u ∧ w'.ownsRow w.heap.size 9 1 u L.length (scells L) ∧ Below w.heap.size w w' := by
  obtain ⟨x, y, rfl⟩ := h.form
  have HA := hide h
  clear h
  obtain ⟨n, hn⟩ : ∃ n, L.length = n := ⟨_, rfl⟩
  have HZ := hide hz
  clear hz
  rw [hn] at hl ⊢
  go_enter Try.func52, Try.ntmps52
  go_wp2_with fail
  go_loopw [3, 8] (fun u y wr => ∃ (i : Nat), i ≤ n ∧ y = .int .i64 i ∧ wr.ownsRow w.heap.size 9 1 u (L.take i).length (scells (L.take i)) ∧ Below w.heap.size w wr) (fun _ y _ => n - (intOf y).toNat)
  case atStart => exact ⟨0, Nat.zero_le _, rfl, by rw [List.take_zero]; exact World.ownsRow_nil _ _ _ _, Below.refl _ _⟩
  case round u0 y0 =>
    obtain ⟨i, hi, rfl, ho, hb⟩ := hrel
    by_cases hlt : i < n
    · have d2 : (i : Int) < (n : Int) := by omega
      have d0 : (0 : Int) ≤ (i : Int) := by omega
      obtain ⟨g, o, cp, e1, hg, k1⟩ := (unhide HA).get i (by omega)
      cases e1
      have hil : i < L.length := by omega
      have c1 := (hb.cell (p := ⟨g, o + i, none⟩) hg).trans k1
      have hz := unhide HZ L[i] (List.getElem_mem hil)
      have HT : Hid (L.take (i + 1) = L.take i ++ [L[i]]) := hide (List.take_succ_eq_append_getElem hil)
      have hti : (L.take i).length = i := by rw [List.length_take]; omega
      generalize L[i] = t at *
      have C := hide fun v => cloneS t v (by omega)
      rw [hti] at ho
      have HO := hide ho
      have HB := hide hb
      clear ho hb k1 HA
      go_wp2_with (first
        | (go_at_call 34; refine (unhide C _).mono ?_; rintro e w3 ⟨rfl, hb3⟩
           have ho3 := own_at (unhide HO) (fun g _ _ h2 => hb3.block g (Array.getElem?_eq_some_iff.1 h2).1)
           have hB3 := (unhide HB).trans (hb3.mono (unhide HB).size)
           have HX := hide (And.intro ho3 hB3)
           clear ho3 hB3 hb3)
        | (at_builtin; refine append_txt rfl _ _ rfl w.heap.size _ (L.take i) i hti rfl (unhide HX).1 t rfl (by omega) (unhide HX).2.size ?_; rintro v4 w4 ho4 hg4
           have hB4 : Below w.heap.size w w4 := ((unhide HX).2.alloc (unhide HX).2.size _).grown hg4 (by simp; have := (unhide HX).2.size; omega) (fun k hk => (World.ownsRow.lt (unhide HX).1 k hk).1)
           have HY := hide (And.intro ho4 hB4)
           clear ho4 hg4 hB4 HX))
      go_roundw
      case rel => exact ⟨i + 1, by omega, by go_num, by rw [unhide HT, List.length_append, hti]; exact (unhide HY).1, (unhide HY).2⟩
      case measure => simp [intOf]; omega
    · have e : i = n := by omega
      subst e
      have d1 : ¬ ((i : Int) < (i : Int)) := by omega
      rw [List.take_of_length_le (by omega), hn] at ho
      go_wp2
      go_ret
      exact ⟨_, rfl, ho, hb⟩
set_option maxHeartbeats 4000000 in
theorem iTexts {w0 : World} {B M : Nat} {p : Lp} {S Q : List ByteArray} {F : List Nb} {G : List ByteArray} {vq vf vg : Value} {q : World} (h : Lw w0 B M p S Q F G vq vf vg q) (ha : 0 ≤ p.va ∧ p.va ≤ 7) (hS : S.length ≤ 7) (hQ : Q.length ≤ 100) :
    Calls Try.prog 54 #[.pointer (some ⟨B, 0, none⟩)] q fun e q' => ∃ u, e = .returned u ∧ q'.ownsRow q.heap.size 9 1 u (S ++ Q).length (scells (S ++ Q)) ∧ Below q.heap.size q q' := by
  obtain ⟨wi, vs, va, vr, ak⟩ := p
  dsimp only at *
  obtain ⟨c0, c1, c2, c3, c4, c5, c6, c7, c8⟩ := row9l h.row
  obtain ⟨n, hn⟩ : ∃ n, S.length = n := ⟨_, rfl⟩
  have hlen := h.mp.len
  rw [hn] at hlen hS
  have HL := hide h
  have fs := field_st
  clear h
  go_enter Try.func54, Try.ntmps54
  go_wp2_with fail
  clear hlen c0 c1 c2 c3 c4 c5 c6 c7 c8
  go_loopw [3, 4, 15] (fun u m y wr => ∃ (i : Nat), i ≤ n ∧ y = .int .i64 i ∧ m = .int .i64 ((va + i) % 8) ∧ wr.ownsRow q.heap.size 9 1 u (S.take i).length (scells (S.take i)) ∧ Below q.heap.size q wr) (fun _ _ y _ => n - (intOf y).toNat)
  case atStart => exact ⟨0, Nat.zero_le _, rfl, by rw [show (va + ((0 : Nat) : Int)) % 8 = va by omega], by rw [List.take_zero]; exact World.ownsRow_nil _ _ _ _, Below.refl _ _⟩
  case round u0 m0 y0 =>
    obtain ⟨i, hi, rfl, rfl, ho, hb⟩ := hrel
    by_cases hlt : i < n
    · have d2 : (i : Int) < (n : Int) := by omega
      have hil : i < S.length := by omega
      have hL := (unhide HL).step hb
      obtain ⟨_, _, _, _, _, _, c6, _, _⟩ := row9l hL.row
      have hlk := hL.mp.look ha (by omega) i hil
      have HT : Hid (S.take (i + 1) = S.take i ++ [S[i]]) := hide (List.take_succ_eq_append_getElem hil)
      have hti : (S.take i).length = i := by rw [List.length_take]; omega
      generalize S[i] = t at *
      have C := hide fun v => iNumN ((va + i) % 8) (by omega) v
      have HV : Hid (((va + (i : Int)) % 8 + 1) % 8 = (va + ((i + 1 : Nat) : Int)) % 8) := hide (by omega)
      generalize (va + (i : Int)) % 8 = k at *
      rw [hti] at ho
      have HO := hide (And.intro ho hb)
      have fst := fs 79 t rfl
      clear ho hb hL
      go_wp2_with (first
        | (at_builtin; refine append_txt rfl _ _ rfl q.heap.size _ (S.take i) i hti rfl (unhide HO).1 t rfl (by omega) (unhide HO).2.size ?_; rintro v4 w4 ho4 hg4
           have hB4 : Below q.heap.size q w4 := ((unhide HO).2.alloc (unhide HO).2.size _).grown hg4 (by simp; have := (unhide HO).2.size; omega) (fun k hk => (World.ownsRow.lt (unhide HO).1 k hk).1)
           have HY := hide (And.intro ho4 hB4)
           clear ho4 hg4 hB4 HO hlk c6)
        | (go_at_call 56; refine (unhide C _).mono ?_; rintro e w5 ⟨rfl, hw⟩; replace hw := hw.symm; subst hw))
      go_roundw
      case rel => exact ⟨i + 1, by omega, by go_num, by rw [unhide HV], by rw [unhide HT, List.length_append, hti]; exact (unhide HY).1, (unhide HY).2⟩
      case measure => simp [intOf]; omega
    · have e : i = n := by omega
      subst e
      have d1 : ¬ ((i : Int) < (i : Int)) := by omega
      rw [List.take_of_length_le (by omega)] at ho
      have hL := (unhide HL).step hb
      obtain ⟨_, _, _, _, c4, _, _, _, _⟩ := row9l hL.row
      have HO := hide (And.intro ho (And.intro hb hL.hq.s))
      clear ho hb hL
      go_wp2_with (first
        | (at_builtin; refine append_ts rfl _ _ rfl q.heap.size _ _ S Q rfl rfl (unhide HO).1 (unhide HO).2.2 (by omega) (by omega) (unhide HO).2.1.size ?_; rintro v4 w4 ho4 hg4
           have hB4 : Below q.heap.size q w4 := (unhide HO).2.1.grown hg4 (unhide HO).2.1.size (fun k hk => (World.ownsRow.lt (unhide HO).1 k hk).1)
           have HY := hide (And.intro ho4 hB4)
           clear ho4 hg4 hB4 HO c4))
      go_ret
      refine ⟨_, rfl, ?_, (unhide HY).2⟩
      have hh := (unhide HY).1
      rw [List.length_append, hn] at hh
      exact hh
end Go.Proofs.Ytjgnldkncoighaa
