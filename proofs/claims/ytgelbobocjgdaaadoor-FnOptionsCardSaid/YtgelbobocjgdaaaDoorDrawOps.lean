/- The draw of options: a row of them in new memory; of the old blocks the drawer's alone is turned. -/
import Derived.Test.YtgelbobocjgdaaaDoorDrawOp
import Derived.Test.YtgelbobocjgdaaaDoorOptRow
namespace Go.Proofs.YtgelbobocjgdaaaDoor
open Go.RowKit
theorem append_opt {wr : World} {ops : Array Oper} {rest : List Oper} {o : Oper} {a : Act} {Q : Exit → Act → World → Prop} (hgd : o.guard = none) (s x : Operand)
    (ho : o.op = .call { callee := .builtin .append, args := #[s, x], argTypes := #[48, 48] })
    (base : Nat) (v : Value) (F : List Op.Opt) (n : Nat) (hn : F.length = n) (hs : a.eval s = v) (hown : wr.ownsRow base 95 2 v n (ocells F)) (kd : Int) (dt : ByteArray) (hx : a.eval x = .slice (some ⟨wr.heap.size, 0, none⟩) 1 1) (hlen : n ≤ 1000) (hbase : base ≤ wr.heap.size)
    (h : ∀ v' w', w'.ownsRow base 95 2 v' (n + 1) (ocells (F ++ [⟨kd, dt⟩])) → (wr.alloc (.cells #[.int .i64 kd, .string dt] 95)).grownBy w' v.ownBlock → wpList Tryd.prog ops Q rest (a.put o.dst v') w') : wpList Tryd.prog ops Q (o :: rest) a (wr.alloc (.cells #[.int .i64 kd, .string dt] 95)) := by
  obtain ⟨i0, hi0, hz0, hz1, hz2⟩ := oinfo
  refine wpList_append_own _ hgd s x 48 ho base 95 i0 _ 2 24 Tryd.underlying48 hi0 hz0 hz1 hz2 rfl (by decide) v n (ocells F) hs (hown.alloc _) ⟨wr.heap.size, 0, none⟩ 1 1 [.int .i64 kd, .string dt] hx rfl ?_ ?_ ?_ ?_ ?_ ?_
  · intro i u hu
    rw [Addr.add_lit, Nat.zero_add, World.cell?_alloc_at _ _ _ _ rfl, ← hu]
    simp
  · intro u hu
    simp only [List.mem_cons, List.not_mem_nil, or_false] at hu
    rcases hu with rfl | rfl <;> rfl
  · unfold maxLen; omega
  · omega
  · simp; omega
  · intro v' w2 hown2 hg2 _
    refine h v' w2 ?_ hg2
    rw [ocells_append]
    exact hown2
/-- Options under way, and the drawer. -/
structure Osts (w W : World) (B : Nat) (sl : Value) (n : Nat) (v : Value) (F : List Op.Opt) : Prop where
  o : W.ownsRow w.heap.size 95 2 v F.length (ocells F)
  s : Src W B sl n
  g : Nigh B w W
theorem own_nigh {W W' : World} {B base : Nat} {e : TypeId} {size : Nat} {v : Value} {n : Nat} {xs : List Value} (h : W.ownsRow base e size v n xs) (hn : Nigh B W W') (hB : B < base) : W'.ownsRow base e size v n xs :=
  ⟨h.1, h.2.imp id fun ⟨g, cap, cur, h1, h2, h3, h4⟩ => ⟨g, cap, cur, h1, h2, (hn.block g (Array.getElem?_eq_some_iff.1 h3).1 (by omega)).trans h3, h4⟩⟩
theorem Osts.step {w W W' : World} {B : Nat} {sl : Value} {n : Nat} {v : Value} {F : List Op.Opt} (h : Osts w W B sl n v F) (hn : Nigh B W W') (hs : Src W' B sl n) (hB : B < w.heap.size) : Osts w W' B sl n v F :=
  ⟨own_nigh h.o hn hB, hs, h.g.trans hn⟩
theorem Osts.grow {w W W' : World} {B : Nat} {sl : Value} {n : Nat} {v v' : Value} {F : List Op.Opt} {kd : Int} {dt : ByteArray} (h : Osts w W B sl n v F) (ho : W'.ownsRow w.heap.size 95 2 v' (F.length + 1) (ocells (F ++ [⟨kd, dt⟩]))) (hg : (W.alloc (.cells #[.int .i64 kd, .string dt] 95)).grownBy W' v.ownBlock) (hB : B < w.heap.size) : Osts w W' B sl n v' (F ++ [⟨kd, dt⟩]) := by
  have hlt := h.s.lt
  refine ⟨by simpa using ho, h.s.same ?_, (h.g.alloc _).grown hg (fun q hq => (World.ownsRow.lt h.o q hq).1)⟩
  rw [hg.block B (by simp; omega) (fun e => by have := World.ownsRow.lt h.o B e.symm; omega)]
  exact Below.heap_alloc _ _ _ hlt
/-- How long a row is. -/
def vlen : Value → Nat
  | .slice _ n _ => n
  | _ => 0
set_option maxHeartbeats 4000000 in
set_option maxRecDepth 100000 in
theorem src_options (w : World) (B : Nat) (sl : Value) (n : Nat) (hn : n ≤ maxLen) (hS : Src w B sl n) (hD : Dat w B sl n) :
    Calls Tryd.prog 65 #[.pointer (some ⟨B, 0, none⟩)] w fun e w' => ∃ (F : List Op.Opt) (ad : Option Addr) (cp : Nat), e = .returned (.slice ad F.length cp) ∧ F.length ≤ 100 ∧ Osts w w' B sl n (.slice ad F.length cp) F := by
  obtain ⟨ui, hi1, hi2, hi3, hi4⟩ := u8info
  have hBw := hS.lt
  have HD := hide hD
  have DB : Hid (∀ W, Nigh B w W → Dat W B sl n) := hide fun W h => (unhide HD).below (h.below (by omega))
  have H0 : Hid (Osts w (w.alloc (.cells #[] 95)) B sl n (.slice (some ⟨w.heap.size, 0, none⟩) 0 0) []) := hide ⟨World.ownsRow_lit w #[] 0 (by omega) (Nat.zero_le _) rfl, hS.same (Below.heap_alloc _ _ _ hBw), (Nigh.refl _ _).alloc _⟩
  clear hS hD
  go_enter Tryd.func65, Tryd.ntmps65
  go_wp2_with fail
  refine (src_n _ B sl n 6 (by decide) hn (unhide H0).s (unhide DB _ (unhide H0).g)).mono ?_
  rintro e w1 ⟨r, rfl, hr, hS1, ht1⟩
  have H1 := hide ((unhide H0).step (Nigh.of_touch ht1) hS1 hBw)
  have hr6 : r ≤ 6 := by omega
  clear hr hS1 ht1 H0
  go_wp2_with fail
  go_loopw [3, 4] (fun x y wr => ∃ (k : Nat) (F : List Op.Opt), y = .int .i64 k ∧ F.length + k ≤ 6 ∧ (∃ a c, x = .slice a F.length c) ∧ Osts w wr B sl n x F) (fun _ y _ => (intOf y).toNat)
  case atStart => exact ⟨r, [], rfl, by simpa using hr6, ⟨_, _, rfl⟩, unhide H1⟩
  case round =>
    obtain ⟨k, F, rfl, hk, ⟨a, c, rfl⟩, hO⟩ := hrel
    have HO := hide hO
    have hbs := hO.g.size
    clear hO H1
    rcases k with _ | k
    · have d1 : ¬ ((0 : Int) < ((0 : Nat) : Int)) := by omega
      have hF : F.length ≤ 6 := by omega
      clear hk
      go_wp2_with fail
      refine (src_one _ B sl n 20 (by decide) hn (unhide HO).s (unhide DB _ (unhide HO).g)).mono ?_
      rintro e w2 ⟨b2, rfl, hS2, ht2⟩
      have H2 := hide ((unhide HO).step (Nigh.of_touch ht2) hS2 hBw)
      clear hS2 ht2 HO hbs
      cases b2
      · go_wp2
        go_ret
        exact ⟨F, a, c, rfl, by omega, unhide H2⟩
      · go_wp2_with fail
        refine (src_n _ B sl n 3 (by decide) hn (unhide H2).s (unhide DB _ (unhide H2).g)).mono ?_
        rintro e w3 ⟨q, rfl, hq, hS3, ht3⟩
        have H3 := hide ((unhide H2).step (Nigh.of_touch ht3) hS3 hBw)
        have hs3 := (unhide H3).g.size
        have hB3 := hS3.lt
        clear hq hS3 ht3 H2
        by_cases q0 : q = 0
        · subst q0
          go_wp2_with fail
          have hn4 : Nigh B w (w3.alloc (.cells #[.int .i64 0, .int .i64 255, .int .i64 256] 2)) := (unhide H3).g.alloc _
          have hS4 : Src (w3.alloc (.cells #[.int .i64 0, .int .i64 255, .int .i64 256] 2)) B sl n := (unhide H3).s.same (Below.heap_alloc _ _ _ hB3)
          refine (src_n _ B sl n 3 (by decide) hn hS4 (unhide DB _ hn4)).mono ?_
          rintro e w5 ⟨r5, rfl, hr5, hS5, ht5⟩
          have hr5' : r5 < 3 := by omega
          obtain ⟨kd, hkd, _, _⟩ := lit_cell ((ht5.block w3.heap.size (by omega)).trans (heap_alloc_new w3 _)) (by decide) r5 (by simpa using hr5')
          have H5 := hide (((unhide H3).step ((Nigh.refl _ _).alloc _) hS4 hBw).step (Nigh.of_touch ht5) hS5 hBw)
          have hs5 := (unhide H5).g.size
          clear hn4 hS4 hr5 hS5 ht5 H3
          go_wp2_with (first
            | (at_builtin; refine append_opt rfl _ _ rfl w.heap.size (.slice a F.length c) F F.length rfl rfl (unhide H5).o kd ⟨#[]⟩ rfl (by omega) hs5 ?_; rintro v6 w6 ho6 hg6; obtain ⟨a6, c6, rfl⟩ := own_form ho6; have H6 := hide ((unhide H5).grow ho6 hg6 hBw); clear ho6 hg6 H5))
          go_ret
          exact ⟨F ++ [⟨kd, ⟨#[]⟩⟩], a6, c6, by simp, by simp; omega, by simpa using unhide H6⟩
        · have e0 : ((q : Int) == 0) = false := beq_eq_false_iff_ne.2 (by omega)
          by_cases q1 : q = 1
          · subst q1
            go_wp2_with fail
            refine (src_n _ B sl n 2 (by decide) hn (unhide H3).s (unhide DB _ (unhide H3).g)).mono ?_
            rintro e w5 ⟨r5, rfl, hr5, hS5, ht5⟩
            have hr5' : r5 < 2 := by omega
            have H5 := hide ((unhide H3).step (Nigh.of_touch ht5) hS5 hBw)
            have hs5 := (unhide H5).g.size
            have hB5 := hS5.lt
            clear hr5 hS5 ht5 H3
            go_wp2_with (first
              | (at_make; refine wpList_make_full w5 rfl _ _ 22 rfl w5.heap.size 5 ui (.int .u8 0) 1 Tryd.underlying22 hi1 hi2 hi3 .i64 .i64 _ _ (20 + r5) rfl rfl (by go_num) (by go_num) (by rw [hi4]; omega) (by unfold maxLen; omega) (Nat.le_refl _) ?_; rintro w6 ho6 hg6; rw [made_zeroL] at ho6; have hcv := conv_own ho6; have hb6 : Below w5.heap.size w5 w6 := (Below.refl _ _).grown hg6 (Nat.le_refl _) (fun k hk => by cases hk); have H6 := hide ((unhide H5).step (Nigh.of_below hb6) ((unhide H5).s.same (hb6.block B hB5)) hBw); have hs6 := (unhide H6).g.size; clear ho6 hg6 hb6 H5)
              | (at_builtin; refine append_opt rfl _ _ rfl w.heap.size (.slice a F.length c) F F.length rfl rfl (unhide H6).o 3 _ rfl (by omega) hs6 ?_; rintro v7 w7 ho7 hg7; obtain ⟨a7, c7, rfl⟩ := own_form ho7; have H7 := hide ((unhide H6).grow ho7 hg7 hBw); clear ho7 hg7 H6))
            go_ret
            exact ⟨F ++ [⟨3, _⟩], a7, c7, by simp, by simp; omega, by simpa using unhide H7⟩
          · have e1 : ((q : Int) == 1) = false := beq_eq_false_iff_ne.2 (by omega)
            go_wp2_with fail
            go_loopw [3] (fun x wr => ∃ (G : List Op.Opt), G.length ≤ 22 ∧ (∃ a c, x = .slice a G.length c) ∧ Osts w wr B sl n x G) (fun x _ => 30 - vlen x)
            case atStart => exact ⟨F, by omega, ⟨_, _, rfl⟩, unhide H3⟩
            case round =>
              obtain ⟨G, hG, ⟨a', c', rfl⟩, hO'⟩ := hrel
              have HO' := hide hO'
              clear hO' H3
              go_wp2_with fail
              refine (src_n _ B sl n 3 (by decide) hn (unhide HO').s (unhide DB _ (unhide HO').g)).mono ?_
              rintro e w5 ⟨r5, rfl, hr5, hS5, ht5⟩
              have hr5' : r5 < 3 := by omega
              have H5 := hide ((unhide HO').step (Nigh.of_touch ht5) hS5 hBw)
              have hs5 := (unhide H5).g.size
              clear hr5 hS5 ht5 HO'
              by_cases hlt : G.length < 19 + r5
              · have d2 : (G.length : Int) < 19 + (r5 : Int) := by omega
                go_wp2_with (first
                  | (at_builtin; refine append_opt rfl _ _ rfl w.heap.size (.slice a' G.length c') G G.length rfl rfl (unhide H5).o 3 ⟨#[]⟩ rfl (by omega) hs5 ?_; rintro v6 w6 ho6 hg6; obtain ⟨a6, c6, rfl⟩ := own_form ho6; have H6 := hide ((unhide H5).grow ho6 hg6 hBw); clear ho6 hg6 H5))
                go_roundw
                case rel => exact ⟨G ++ [⟨3, ⟨#[]⟩⟩], by simp; omega, ⟨a6, c6, by simp⟩, unhide H6⟩
                case measure => simp [vlen]; omega
              · have d2 : ¬ ((G.length : Int) < 19 + (r5 : Int)) := by omega
                go_wp2
                go_ret
                exact ⟨G, a', c', rfl, by omega, unhide H5⟩
    · have d1 : (0 : Int) < ((k + 1 : Nat) : Int) := by omega
      go_wp2_with fail
      refine (src_option _ B sl n hn (unhide HO).s (unhide DB _ (unhide HO).g)).mono ?_
      rintro e w2 ⟨kd, dt, rfl, hS2, hn2⟩
      have H2 := hide ((unhide HO).step hn2 hS2 hBw)
      have hs2 := (unhide H2).g.size
      clear hS2 hn2 HO
      go_wp2_with (first
        | (at_builtin; refine append_opt rfl _ _ rfl w.heap.size (.slice a F.length c) F F.length rfl rfl (unhide H2).o kd dt rfl (by omega) hs2 ?_; rintro v6 w6 ho6 hg6; obtain ⟨a6, c6, rfl⟩ := own_form ho6; have H6 := hide ((unhide H2).grow ho6 hg6 hBw); clear ho6 hg6 H2))
      go_roundw
      case rel => exact ⟨k, F ++ [⟨kd, dt⟩], by go_num, by simp; omega, ⟨a6, c6, by simp⟩, unhide H6⟩
      case measure => simp [intOf]
end Go.Proofs.YtgelbobocjgdaaaDoor
