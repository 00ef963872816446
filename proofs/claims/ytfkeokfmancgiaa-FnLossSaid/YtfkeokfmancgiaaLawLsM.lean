/- The law FnLoss walked: it returns true, and what lay in memory stands. -/
import Derived.Test.YtfkeokfmancgiaaLsWM
namespace Go.Proofs.Ytfkeokfmancgiaa
open Go.RowKit
set_option linter.unusedSimpArgs false in
set_option maxHeartbeats 64000000 in
set_option maxRecDepth 100000 in
theorem lawLs (w : World) (s1 s2 : Value) (n1 n2 : Nat) (h1 : n1 ≤ maxLen) (h2 : n2 ≤ maxLen) (hD1 : Dat w w.heap.size s1 n1) (hD2 : Dat w w.heap.size s2 n2) (hl1 : n1 ≤ 1048576) (hl2 : n2 ≤ 1048576) :
    Calls Try.prog 5 #[s1, s2] w fun e w' => e = .returned (.bool true) ∧ Below w.heap.size w w' := by
  have C2 : Hid (∀ (z : World) (q most : Nat), Below w.heap.size w z → q < 1000 → most < 4294967296 → Calls Try.prog 25 #[s2, .int .i64 q, .int .i64 most] z fun e w' => ∃ r : Nat, e = .returned (.int .i64 r) ∧ (r < most ∨ r = 0) ∧ w' = z) := hide fun z q most hz hq hm => lwAt z w.heap.size s2 n2 q most hq hm h2 (hD2.below hz)
  have C1 : Hid (∀ (z : World) (q most : Nat), Below w.heap.size w z → q < 1000 → most < 4294967296 → Calls Try.prog 25 #[s1, .int .i64 q, .int .i64 most] z fun e w' => ∃ r : Nat, e = .returned (.int .i64 r) ∧ (r < most ∨ r = 0) ∧ w' = z) := hide fun z q most hz hq hm => lwAt z w.heap.size s1 n1 q most hq hm h1 (hD1.below hz)
  obtain ⟨sa1, cap1, rfl⟩ := hD1.1
  obtain ⟨sa2, cap2, rfl⟩ := hD2.1
  clear hD1 hD2
  have d1 : ¬ ((1048576 : Int) < (n1 : Int)) := by omega
  have d2 : ¬ ((1048576 : Int) < (n2 : Int)) := by omega
  go_enter Try.func5, Try.ntmps5
  go_wp2_with fail
  refine (unhide C1 _ 0 3 (Below.refl _ _) (by decide) (by decide)).mono ?_
  rintro e w1 ⟨r0, rfl, hr0, hw⟩
  replace hw := hw.symm
  subst hw
  have hr0' : r0 ≤ 2 := by omega
  clear hr0
  go_wp2_with fail
  refine (unhide C1 _ 1 2 (Below.refl _ _) (by decide) (by decide)).mono ?_
  rintro e w1 ⟨r1, rfl, hr1, hw⟩
  replace hw := hw.symm
  subst hw
  clear hr1
  go_wp2_with fail
  refine (unhide C1 _ 2 4 (Below.refl _ _) (by decide) (by decide)).mono ?_
  rintro e w1 ⟨r2, rfl, hr2, hw⟩
  replace hw := hw.symm
  subst hw
  have hr2' : r2 ≤ 3 := by omega
  clear hr2
  obtain ⟨links, hlk⟩ : ∃ links : Nat, 1 + (r0 : Int) = (links : Int) := ⟨1 + r0, by omega⟩
  obtain ⟨s, hs⟩ : ∃ s : Nat, 1 + (r2 : Int) = (s : Int) := ⟨1 + r2, by omega⟩
  have hlk1 : 1 ≤ links ∧ links ≤ 3 := by omega
  have hs1 : 1 ≤ s ∧ s ≤ 4 := by omega
  obtain ⟨ri, hi1, hi2, hi3, hi4⟩ := rrinfo
  have hwA : w.heap.size ≤ (w.alloc (.cells #[] 9)).heap.size := by simp
  go_upto_region 8 with (first
    | (at_make; refine wpList_make_full _ rfl _ _ 50 rfl w.heap.size 25 ri (.slice none 0 0) 1 Try.underlying50 hi1 hi2 hi3 .i64 .i64 _ _ links rfl rfl (by first | exact hlk | rfl) (by first | exact hlk | rfl) (by rw [hi4]; omega) (by unfold maxLen; omega) hwA ?_; rintro w2 ho2 hg2))
  have hb0 : Below w.heap.size w (w.alloc (.cells #[] 9)) := (Below.refl _ _).alloc (Nat.le_refl _) _
  have hbA := hb0.grown hg2 hwA (fun q hq => by cases hq)
  have hmade := rr_made (w := w.alloc (.cells #[] 9)) ho2
  have htx : w2.heap[w.heap.size]? = some (.cells #[] 9) := (hg2.block _ (by simp) (by simp)).trans (heap_alloc_new w _)
  have hsA : (w.alloc (.cells #[] 9)).heap.size = w.heap.size + 1 := by simp
  rw [hsA] at hmade
  have E0 : Hid (Lz w w2 s links (w.heap.size + 1) (.slice (some ⟨w.heap.size, 0, none⟩) 0 0) [] (List.replicate links (Value.slice none 0 0)) (List.replicate links []) [] 0 0) := hide ⟨⟨rfl, Or.inr ⟨w.heap.size, 0, #[], rfl, Nat.le_refl _, htx, Nat.le_refl _, Nat.zero_le _, rfl, rfl⟩⟩, Rw.start hmade, List.length_replicate, Ly.start links, hbA, Nat.le_succ _⟩
  clear hb0 hbA hmade htx ho2 hg2 hwA hsA
  have HLK := hide hlk
  have HSZ := hide hs
  clear hlk hs
  generalize ((r1 : Int) == 1) = lossy at *
  generalize w.heap.size + 1 = G at *
  go_wp2_with fail
  go_loopw [8, 10, 11, 12] (fun tv sv lv iv wr => ∃ (i lost : Nat) (ts : List ByteArray) (vs : List Value) (Rm : List (List Fg)), i ≤ 5 ∧ iv = .int .i64 i ∧ ts.length = i ∧ TsOk ts ∧ sv = .int .i64 (cutsN s ts : Nat) ∧ lv = .int .i64 (lost : Nat) ∧ (lossy = false → lost = 0) ∧ lost ≤ 7 * i ∧ cutsN s ts ≤ 7 * i ∧ Lz w wr s links G tv ts vs Rm (cuts s 0 ts).flatten (cutsN s ts : Nat) lost) (fun _ _ _ iv _ => 5 - (intOf iv).toNat)
  case atStart => exact ⟨0, 0, [], _, _, Nat.zero_le _, rfl, rfl, fun j h => absurd h (Nat.not_lt_zero _), rfl, rfl, fun _ => rfl, Nat.le_refl _, Nat.le_refl _, unhide E0⟩
  case round =>
    obtain ⟨i, lost, ts, vs, Rm, hi5, rfl, hti, hts, rfl, rfl, hly, hlo, hcn, hlz⟩ := hrel
    have E1 := hide hlz
    have HT := hide (And.intro hti (And.intro hts hly))
    clear hlz hti hts hly E0
    by_cases hi : i < 5
    · have di : (i : Int) < 5 := by omega
      obtain ⟨c, hc⟩ : ∃ c : UInt8, c = UInt8.ofNat (97 + i) := ⟨_, rfl⟩
      have hcn2 : (c.toNat : Int) = 97 + (i : Int) := by rw [hc, UInt8.toNat_ofNat', Nat.mod_eq_of_lt (by omega)]; omega
      have hcw : IntKind.u8.wrap (97 + (i : Int)) = (c.toNat : Int) := by rw [hcn2, IntKind.wrap_u8]; omega
      have hcv := conv9 c
      have HC := hide (And.intro hc hcn2)
      clear hc hcn2
      have C3 : Hid (∀ z, Below w.heap.size w z → Calls Try.prog 25 #[.slice sa1 n1 cap1, .int .i64 (3 + (i : Int)), .int .i64 7] z fun e w' => ∃ r : Nat, e = .returned (.int .i64 r) ∧ (r < 7 ∨ r = 0) ∧ w' = z) := hide fun z hz => by
        have h := unhide C1 z (3 + i) 7 hz (by omega) (by decide)
        rwa [show (((3 + i : Nat)) : Int) = 3 + (i : Int) by omega] at h
      go_upto_region 14 with fail
      refine gen_world (fun q => Lz w q s links G u8 ts vs Rm (cuts s 0 ts).flatten (cutsN s ts : Nat) lost) ((unhide E1).step ((Below.refl _ _).alloc (Nat.le_refl _) _)) ?_
      intro q1 hq1
      have E2 := hide hq1
      clear hq1 E1 hcv hcw
      go_wp2_with fail
      refine (unhide C3 _ (unhide E2).b).mono ?_
      rintro e w3 ⟨r3, rfl, hr3, hw⟩
      replace hw := hw.symm
      subst hw
      have hr3' : r3 ≤ 6 := by omega
      clear hr3 C3
      go_wp2_with fail
      go_loopw [13, 14] (fun tv kv wr => ∃ (r : List UInt8) (k : Nat), r.length + k ≤ 6 ∧ tv = .string (txt (c :: r)) ∧ kv = .int .i64 k ∧ Lz w wr s links G u8 ts vs Rm (cuts s 0 ts).flatten (cutsN s ts : Nat) lost) (fun _ kv _ => (intOf kv).toNat)
      case atStart => exact ⟨[], r3, by simpa using hr3', rfl, rfl, unhide E2⟩
      case round =>
        obtain ⟨r, k, hrk, rfl, rfl, hlz⟩ := hrel
        have E3 := hide hlz
        clear hlz E2
        by_cases hk : 0 < k
        · have dk : (0 : Int) < (k : Int) := by omega
          obtain ⟨d, hd⟩ : ∃ d : UInt8, d = UInt8.ofNat (48 + k) := ⟨_, rfl⟩
          have hdn : (d.toNat : Int) = 48 + (k : Int) := by rw [hd, UInt8.toNat_ofNat', Nat.mod_eq_of_lt (by omega)]; omega
          have hdw : IntKind.u8.wrap (48 + (k : Int)) = (d.toNat : Int) := by rw [hdn, IntKind.wrap_u8]; omega
          have hdv := conv9 d
          have hsz : ¬ ((txt (c :: r)).size + (txt [d]).size > 9223372036854775807) := by rw [txt_size, txt_size]; simp; omega
          clear hd hdn
          go_wp2_with fail
          go_roundw
          case rel =>
            refine ⟨r ++ [d], k - 1, by rw [List.length_append]; simp; omega, by rw [txt_snoc]; rfl, by go_num, (unhide E3).step ((Below.refl _ _).alloc (Nat.le_refl _) _)⟩
          case measure => simp [intOf]; omega
        · have dk : ¬ ((0 : Int) < (k : Int)) := by omega
          obtain ⟨t, ht⟩ : ∃ t, txt (c :: r) = t := ⟨_, rfl⟩
          have htd : t.data.toList = c :: r := by rw [← ht]; rfl
          have hts7 : t.size ≤ 7 := by rw [← ht, txt_size, List.length_cons]; omega
          have HTD := hide (And.intro htd (show r.length ≤ 6 by omega))
          have htg : ¬ (t.size > 9223372036854775807) := by omega
          rw [ht]
          obtain ⟨hcF, hcn7⟩ := cut_small (q := cutsN s ts) hts7 hs1 (by omega)
          have CU := hide fun z => iCut t (s : Int) ((cutsN s ts : Nat) : Int) z (by unfold maxLen; omega)
          rw [hcF] at CU
          clear hcF ht htd dk
          have E4 := hide ((unhide E3).step ((Below.refl _ _).alloc (Nat.le_refl _) (.cells #[.string t] 9)))
          have HLit : Hid ((wr.alloc (.cells #[.string t] 9)).ownsRow wr.heap.size 9 1 (.slice (some ⟨wr.heap.size, 0, none⟩) 1 1) 1 (scells [t])) := hide (World.ownsRow_lit wr #[.string t] 1 (Nat.le_refl _) (by decide) rfl)
          have hti5 : ts.length ≤ 1000 := by have := (unhide HT).1; omega
          have hw4 := (unhide E4).b.size
          go_upto_region 19 with (first
            | (at_builtin; refine append_one8 rfl _ _ rfl w.heap.size wr.heap.size u8 ts t _ 1 rfl rfl (unhide E4).t (unhide HLit) hti5 hw4 ?_; rintro tv5 w5 ho5 hg5; have E5 := hide ((unhide E4).text hg5 ho5); clear ho5 hg5))
          clear hti5 hw4 HLit E4 E3
          go_wp2_with fail
          refine (unhide CU _).mono ?_
          rintro e w6 ⟨uv, rfl, hg6, hn6, hb6⟩
          obtain ⟨ua, uc, ev⟩ := hg6.form
          subst ev
          have E6 := hide (And.intro ((unhide E5).step hb6) (And.intro hg6 (show ∀ (j : Nat) (v : Value), vs[j]? = some v → ∀ m, (Value.slice ua (cutL t s ((cutsN s ts : Nat) : Int) (cnt t.size s)).length uc).ownBlock = some m → v.ownBlock ≠ some m from fun j v hj m hm hv => by
            have h1 := hn6 m hm
            obtain ⟨x, hx⟩ : ∃ x, Rm[j]? = some x := ⟨_, List.getElem?_eq_getElem (by rw [← (unhide E5).r.len]; exact (List.getElem?_eq_some_iff.1 hj).1)⟩
            rcases (unhide E5).r.row j v x hj hx with ⟨rfl, _⟩ | ⟨m', o, cp, cur, rfl, h2, _⟩
            · cases hv
            · have e' : m' = m := Option.some.inj hv
              have := (Array.getElem?_eq_some_iff.1 h2).1
              omega)))
          clear hg6 hn6 hb6 E5 CU
          have hseq : ∀ (k : Nat) (h : k < (cutL t s ((cutsN s ts : Nat) : Int) (cnt t.size s)).length), ((cutL t s ((cutsN s ts : Nat) : Int) (cnt t.size s))[k]'h).seq = ((cutsN s ts : Nat) : Int) + (k : Int) := fun k h => by
            have hg := cutL_get t s ((cutsN s ts : Nat) : Int) (cnt t.size s) k (by rw [cutL_len] at h; exact h)
            rw [List.getElem?_eq_getElem h] at hg
            rw [Option.some.inj hg]
          have hlen : (cutL t s ((cutsN s ts : Nat) : Int) (cnt t.size s)).length = cnt t.size s := cutL_len _ _ _ _
          obtain ⟨F, hF⟩ : ∃ F, cutL t s ((cutsN s ts : Nat) : Int) (cnt t.size s) = F := ⟨_, rfl⟩
          rw [hF] at E6 hseq hlen ⊢
          have hF7 : F.length ≤ 7 := by omega
          have HFF := hide (And.intro hF (And.intro hlen hseq))
          clear hF hlen hseq hcn7
          go_wp2_with fail
          go_loopw [11, 16] (fun lv kv wr => ∃ (k lost' : Nat) (vs : List Value) (Rm : List (List Fg)), k ≤ F.length ∧ kv = .int .i64 k ∧ lv = .int .i64 lost' ∧ (lossy = false → lost' = 0) ∧ lost' ≤ 7 * i + k ∧ Lz w wr s links G tv5 (ts ++ [t]) vs Rm ((cuts s 0 ts).flatten ++ F.take k) ((cutsN s ts : Nat) + (k : Int)) lost' ∧ HoldsG wr (.slice ua F.length uc) F ∧ (∀ (j : Nat) (v : Value), vs[j]? = some v → ∀ m, (Value.slice ua F.length uc).ownBlock = some m → v.ownBlock ≠ some m)) (fun _ kv _ => F.length - (intOf kv).toNat)
          case atStart =>
            refine ⟨0, lost, vs, Rm, Nat.zero_le _, rfl, rfl, (unhide HT).2.2, by omega, ?_, (unhide E6).2.1, (unhide E6).2.2⟩
            rw [List.take_zero, List.append_nil, show ((cutsN s ts : Nat) : Int) + ((0 : Nat) : Int) = ((cutsN s ts : Nat) : Int) by omega]
            exact (unhide E6).1
          case round =>
            obtain ⟨k, lost', vs', Rm', hkF, rfl, rfl, hly', hlo', hlz, hgF, hap⟩ := hrel
            have E7 := hide (And.intro hlz (And.intro hgF (And.intro hap hly')))
            clear hlz hgF hap hly' E6
            by_cases hk : k < F.length
            · have dkF : (k : Int) < (F.length : Int) := by omega
              have C4 : Hid (∀ z, Below w.heap.size w z → Calls Try.prog 25 #[.slice sa2 n2 cap2, .int .i64 (7 * (i : Int) + (k : Int)), .int .i64 6] z fun e w' => ∃ r : Nat, e = .returned (.int .i64 r) ∧ (r < 6 ∨ r = 0) ∧ w' = z) := hide fun z hz => by
                have h := unhide C2 z (7 * i + k) 6 hz (by omega) (by decide)
                rwa [show (((7 * i + k : Nat)) : Int) = 7 * (i : Int) + (k : Int) by omega] at h
              have C5 : Hid (∀ z, Below w.heap.size w z → Calls Try.prog 25 #[.slice sa2 n2 cap2, .int .i64 (50 + 7 * (i : Int) + (k : Int)), .int .i64 (links : Int)] z fun e w' => ∃ r : Nat, e = .returned (.int .i64 r) ∧ (r < links ∨ r = 0) ∧ w' = z) := hide fun z hz => by
                have h := unhide C2 z (50 + 7 * i + k) links hz (by omega) (by omega)
                rwa [show (((50 + 7 * i + k : Nat)) : Int) = 50 + 7 * (i : Int) + (k : Int) by omega] at h
              cases lossy
              · go_wp2_with fail
                refine (unhide C5 _ (unhide E7).1.b).mono ?_
                rintro e w8 ⟨at9, rfl, hat, hw⟩
                replace hw := hw.symm
                subst hw
                have hat' : at9 < links := by omega
                have hatI : (at9 : Int) < (links : Int) := by omega
                clear hat C4 C5
                obtain ⟨tt, htt⟩ : ∃ tt, Rm'[at9]? = some tt := ⟨_, List.getElem?_eq_getElem (by rw [(unhide E7).1.n]; exact hat')⟩
                obtain ⟨v9, hv9⟩ : ∃ v9, vs'[at9]? = some v9 := ⟨_, List.getElem?_eq_getElem (by rw [(unhide E7).1.r.len, (unhide E7).1.n]; exact hat')⟩
                obtain ⟨va, vc, ev⟩ := ((unhide E7).1.r.row at9 v9 tt hv9 htt).form
                subst ev
                have HV : Hid (vs'[at9]? = some (.slice va tt.length vc) ∧ Rm'[at9]? = some tt ∧ tt.length ≤ 1000) := hide ⟨hv9, htt, by
                  have h1 := totL_set Rm' at9 tt [] htt
                  have h2 := (unhide E7).1.y.tot
                  have h3 : ((cuts s 0 ts).flatten ++ F.take k).length ≤ 1000 := by rw [List.length_append, cuts_flen, List.length_take]; omega
                  simp only [List.length_nil] at h1
                  omega⟩
                clear hv9 htt
                obtain ⟨g1, o1, p1, e1, _⟩ := (unhide E7).2.1.f.2 k hk
                injection e1 with e1 _ e3
                subst e1
                clear e3
                have HSQ0 := (unhide HFF).2.2 k hk
                obtain ⟨f, hfk⟩ : ∃ f, F[k] = f := ⟨_, rfl⟩
                obtain ⟨fq, bx, bf, tx⟩ := f
                rw [hfk] at HSQ0
                have HSQ : Hid ((⟨fq, bx, bf, tx⟩ : Fg).seq = ((cutsN s ts : Nat) : Int) + (k : Int)) := hide HSQ0
                have HFK := hide hfk
                clear HSQ0 hfk
                have SY : Hid (∀ y9, HoldsG y9 (.slice (some ⟨g1, o1, none⟩) F.length uc) F → (y9.cell? ⟨g1, o1 + k * 4, none⟩ = some (.int .i64 fq) ∧ y9.cell? ⟨g1, o1 + k * 4 + 1, none⟩ = some (.bool bx) ∧ y9.cell? ⟨g1, o1 + k * 4 + 2, none⟩ = some (.bool bf) ∧ y9.cell? ⟨g1, o1 + k * 4 + 3, none⟩ = some (.string tx))) := hide fun y9 hz => by
                  obtain ⟨g', o', p', e', _, c0, c1, c2, c3⟩ := hz.f.2 k hk
                  cases e'
                  rw [unhide HFK] at c0 c1 c2 c3
                  exact ⟨c0, c1, c2, c3⟩
                have SG : Hid (∀ y9, Lz w y9 s links G tv5 (ts ++ [t]) vs' Rm' ((cuts s 0 ts).flatten ++ F.take k) ((cutsN s ts : Nat) + (k : Int)) lost' → y9.cell? ⟨G, at9, none⟩ = some (.slice va tt.length vc)) := hide fun y9 hz => by
                  rw [cell_of_row _ _ _ _ _ _ hz.r.b, List.getElem?_toArray]
                  exact (unhide HV).1
                go_upto_region 27 with fail
                have E9 : Hid (Lz w wr.drew s links G tv5 (ts ++ [t]) vs' Rm' ((cuts s 0 ts).flatten ++ F.take k) ((cutsN s ts : Nat) + (k : Int)) lost' ∧ HoldsG wr.drew (.slice (some ⟨g1, o1, none⟩) F.length uc) F) := hide ⟨(unhide E7).1.step ((Below.refl _ _).drew), (unhide E7).2.1.below ((Below.refl _ _).drew) rfl⟩
                refine wp_region_held_drew (S := fun y9 => y9.cell? ⟨g1, o1 + k * 4, none⟩ = some (.int .i64 fq) ∧ y9.cell? ⟨g1, o1 + k * 4 + 1, none⟩ = some (.bool bx) ∧ y9.cell? ⟨g1, o1 + k * 4 + 2, none⟩ = some (.bool bf) ∧ y9.cell? ⟨g1, o1 + k * 4 + 3, none⟩ = some (.string tx)) (by kernel_rfl) (unhide SY _ (unhide E9).2) (fun hHeld => ?_)
                generalize wr.drew = yy at E9 hHeld ⊢
                refine wpAnyH_take (i := 0) (v := ?vpa1_0) rfl (by kernel_rfl) (by kernel_rfl) (by kernel_rfl) (fun _ _ _ h => h) (Or.inl ⟨by rfl, ?hypa1_0⟩) (by assumption) ?_
                case hypa1_0 =>
                  intro w hSw
                  try dsimp only at hSw
                  go_simp
                  try with_reducible rfl
                try simp only [Act.put, List.setIfInBounds_toArray, List.set_cons_zero, List.set_cons_succ, List.getElem_toArray, List.getElem_cons_zero]
                refine wpAnyH_take (i := 1) (v := ?vpa2_1) rfl (by kernel_rfl) (by kernel_rfl) (by kernel_rfl) (fun _ _ _ h => h) (Or.inl ⟨by rfl, ?hypa2_1⟩) (by assumption) ?_
                case hypa2_1 =>
                  intro w hSw
                  try dsimp only at hSw
                  go_simp
                  try with_reducible rfl
                try simp only [Act.put, List.setIfInBounds_toArray, List.set_cons_zero, List.set_cons_succ, List.getElem_toArray, List.getElem_cons_zero, List.getElem_cons_succ]
                refine wpAnyH_take (i := 2) (v := ?vpa3_2) rfl (by kernel_rfl) (by kernel_rfl) (by kernel_rfl) (fun _ _ _ h => h) (Or.inl ⟨by rfl, ?hypa3_2⟩) (by assumption) ?_
                case hypa3_2 =>
                  intro w hSw
                  try dsimp only at hSw
                  go_simp
                  try with_reducible rfl
                try simp only [Act.put, List.setIfInBounds_toArray, List.set_cons_zero, List.set_cons_succ, List.getElem_toArray, List.getElem_cons_zero, List.getElem_cons_succ]
                refine wpAnyH_take (i := 3) (v := ?vpa4_3) rfl (by kernel_rfl) (by kernel_rfl) (by kernel_rfl) (fun _ _ _ h => h) (Or.inl ⟨by rfl, ?hypa4_3⟩) (by assumption) ?_
                case hypa4_3 =>
                  intro w hSw
                  try dsimp only at hSw
                  go_simp
                  try with_reducible rfl
                try simp only [Act.put, List.setIfInBounds_toArray, List.set_cons_zero, List.set_cons_succ, List.getElem_toArray, List.getElem_cons_zero, List.getElem_cons_succ]
                refine wpAnyH_take (i := 4) (v := ?vpa5_4) rfl (by kernel_rfl) (by kernel_rfl) (by kernel_rfl) (fun _ _ _ h => h) (Or.inl ⟨by rfl, ?hypa5_4⟩) (by assumption) ?_
                case hypa5_4 =>
                  intro w hSw
                  try dsimp only at hSw
                  go_simp
                  try with_reducible rfl
                try simp only [Act.put, List.setIfInBounds_toArray, List.set_cons_zero, List.set_cons_succ, List.getElem_toArray, List.getElem_cons_zero, List.getElem_cons_succ]
                refine wpAnyH_take (i := 6) (v := ?vpa6_6) rfl (by kernel_rfl) (by kernel_rfl) (by kernel_rfl) (fun _ _ _ h => h) (Or.inl ⟨by rfl, ?hypa6_6⟩) (by assumption) ?_
                case hypa6_6 =>
                  intro w hSw
                  try dsimp only at hSw
                  go_simp
                  try with_reducible rfl
                try simp only [Act.put, List.setIfInBounds_toArray, List.set_cons_zero, List.set_cons_succ, List.getElem_toArray, List.getElem_cons_zero, List.getElem_cons_succ]
                refine wpAnyH_take (i := 7) (v := ?vpa7_7) rfl (by kernel_rfl) (by kernel_rfl) (by kernel_rfl) (fun _ _ _ h => h) (Or.inl ⟨by rfl, ?hypa7_7⟩) (by assumption) ?_
                case hypa7_7 =>
                  intro w hSw
                  try dsimp only at hSw
                  go_simp
                  try with_reducible rfl
                try simp only [Act.put, List.setIfInBounds_toArray, List.set_cons_zero, List.set_cons_succ, List.getElem_toArray, List.getElem_cons_zero, List.getElem_cons_succ]
                refine wpAnyH_take (i := 8) (v := ?vpa8_8) rfl (by kernel_rfl) (by kernel_rfl) (by kernel_rfl) (fun _ _ _ h => h) (Or.inl ⟨by rfl, ?hypa8_8⟩) (by assumption) ?_
                case hypa8_8 =>
                  intro w hSw
                  try dsimp only at hSw
                  go_simp
                  try with_reducible rfl
                try simp only [Act.put, List.setIfInBounds_toArray, List.set_cons_zero, List.set_cons_succ, List.getElem_toArray, List.getElem_cons_zero, List.getElem_cons_succ]
                refine wpAnyH_take (i := 9) (v := ?vpa9_9) rfl (by kernel_rfl) (by kernel_rfl) (by kernel_rfl) (fun _ _ _ h => h) (Or.inl ⟨by rfl, ?hypa9_9⟩) (by assumption) ?_
                case hypa9_9 =>
                  intro w hSw
                  try dsimp only at hSw
                  go_simp
                  try with_reducible rfl
                try simp only [Act.put, List.setIfInBounds_toArray, List.set_cons_zero, List.set_cons_succ, List.getElem_toArray, List.getElem_cons_zero, List.getElem_cons_succ]
                refine wpAnyH_ready (rs := [5, 10]) (by kernel_rfl) (by simp) ?_
                refine AllReadyH.cons rfl (fun K hK => ?_) (AllReadyH.cons rfl (fun K hK => ?_) (AllReadyH.nil))
                · have c5 := unhide SG _ (unhide E9).1
                  go_simp
                  clear c5
                  refine hK.out _ _ (unhide SY _ (unhide E9).2) (fun _ => ?_)
                  clear hK K
                  try simp only [Act.put, List.setIfInBounds_toArray, List.set_cons_zero, List.set_cons_succ, List.getElem_toArray, List.getElem_cons_zero, List.getElem_cons_succ]
                  refine wpAnyH_ready (rs := [10]) (by kernel_rfl) (by simp) ?_
                  refine AllReadyH.cons rfl (fun K hK => ?_) (AllReadyH.nil)
                  have hb102 : Below yy.heap.size yy (yy.alloc (.cells #[.int .i64 fq, .bool bx, .bool bf, .string tx] 33)) := (Below.refl _ _).alloc (Nat.le_refl _) _
                  have E102 := hide (And.intro ((unhide E9).1.step hb102) ((unhide E9).2.below hb102 rfl))
                  have HN102 : Hid (HoldsF (yy.alloc (.cells #[.int .i64 fq, .bool bx, .bool bf, .string tx] 33)) (.slice (some ⟨yy.heap.size, 0, none⟩) 1 1) [⟨fq, bx, bf, tx⟩]) := hide (HoldsG.f (Or.inr ⟨yy.heap.size, 1, _, rfl, heap_alloc_new yy _, Nat.le_refl _, fun j hj => by
                    have hj4 : j = 0 ∨ j = 1 ∨ j = 2 ∨ j = 3 := by
                      have : j < 1 * 4 := hj
                      omega
                    rcases hj4 with rfl | rfl | rfl | rfl <;> rfl⟩))
                  clear hb102
                  go_simp
                  refine hK.out _ _ (unhide SY _ (unhide E102).2) (fun _ => ?_)
                  clear hK K
                  try simp only [Act.put, List.setIfInBounds_toArray, List.set_cons_zero, List.set_cons_succ, List.getElem_toArray, List.getElem_cons_zero, List.getElem_cons_succ]
                  generalize yy.heap.size = N102 at HN102 ⊢
                  generalize (yy.alloc (.cells #[.int .i64 fq, .bool bx, .bool bf, .string tx] 33)) = q102 at E102 HN102 ⊢
                  have hS102 := unhide SY _ (unhide E102).2
                  refine wpAnyH_ready (rs := [11]) (by kernel_rfl) (by simp) ?_
                  refine AllReadyH.cons rfl (fun K hK => ?_) (AllReadyH.nil)
                  have hw103 := (unhide E102).1.b.size
                  refine step_append_p q102 (by rfl) _ _ (by rfl) w.heap.size (.slice va tt.length vc) (.slice (some ⟨N102, 0, none⟩) 1 1) tt [⟨fq, bx, bf, tx⟩] (by rfl) (by rfl) ((unhide E102).1.r.row at9 _ tt (unhide HV).1 (unhide HV).2.1) (unhide HN102) (unhide HV).2.2 (by show 1 ≤ 1000; decide) hw103 ?_
                  rintro v103 z103 hp103 hg103 ho103
                  obtain ⟨vb103, vd103, ev103⟩ := hp103.form
                  obtain ⟨tl103, htl103⟩ : ∃ tl, tt ++ [(⟨fq, bx, bf, tx⟩ : Fg)] = tl := ⟨_, rfl⟩
                  rw [htl103] at ev103
                  subst ev103
                  have A103 := hide ((unhide E102).1.app (unhide HV).1 (unhide HV).2.1 hg103 hp103 ho103 (unhide HSQ))
                  have B103 := hide (And.intro ((unhide E102).2.grown9 hg103 (fun m hm => (unhide E7).2.2.1 at9 _ (unhide HV).1 m hm)) (And.intro ho103 (And.intro htl103 (show q102.heap.size ≤ z103.heap.size from hg103.size))))
                  have D103 : Hid (∀ m, (Value.slice (some ⟨g1, o1, none⟩) F.length uc).ownBlock = some m → m < q102.heap.size) := hide fun m hm => by
                    rcases (unhide E102).2 with ⟨ad, cp, e, e0⟩ | ⟨m', cp, cu, e, h2, _⟩
                    · rw [e0] at hk
                      exact absurd hk (by simp)
                    · rw [e] at hm
                      have e' : m' = m := Option.some.inj hm
                      rw [← e']
                      exact (Array.getElem?_eq_some_iff.1 h2).1
                  clear hp103 hg103 ho103 htl103 hw103
                  refine hK.out _ _ (unhide SY _ (unhide B103).1) (fun _ => ?_)
                  clear hK K
                  try simp only [Act.put, List.setIfInBounds_toArray, List.set_cons_zero, List.set_cons_succ, List.getElem_toArray, List.getElem_cons_zero, List.getElem_cons_succ]
                  refine wpAnyH_take (i := 12) (v := ?vpa10_12) rfl (by kernel_rfl) (by kernel_rfl) (by kernel_rfl) (fun _ _ _ h => h) (Or.inl ⟨by rfl, ?hypa10_12⟩) (by assumption) ?_
                  case hypa10_12 =>
                    intro w hSw
                    try dsimp only at hSw
                    go_simp
                    try with_reducible rfl
                  try simp only [Act.put, List.setIfInBounds_toArray, List.set_cons_zero, List.set_cons_succ, List.getElem_toArray, List.getElem_cons_zero, List.getElem_cons_succ]
                  refine wpAnyH_ready (rs := [13]) (by kernel_rfl) (by simp) ?_
                  refine AllReadyH.cons rfl (fun K hK => ?_) (AllReadyH.nil)
                  have hG9 := (unhide A103).1
                  have c9 : z103.cell? ⟨G, at9, none⟩ = some (.slice va tt.length vc) := by rw [cell_of_row _ _ _ _ _ _ hG9, List.getElem?_toArray]; exact (unhide HV).1
                  have fz9 := frz hG9 at9
                  have ZL := hide (HoldsG.set9 (k := at9) (x := (.slice vb103 tl103.length vd103)) (unhide B103).1 hG9)
                  go_simp
                  clear c9 fz9 hG9
                  refine hK.out _ _ (unhide SY _ (unhide ZL)) (fun _ => ?_)
                  clear hK K
                  try simp only [Act.put, List.setIfInBounds_toArray, List.set_cons_zero, List.set_cons_succ, List.getElem_toArray, List.getElem_cons_zero, List.getElem_cons_succ]
                  refine wpAnyH_done (by kernel_rfl) ?_ _
                  go_wp2_with fail
                  go_roundw
                  case rel =>
                    refine ⟨k + 1, lost', vs'.set at9 (.slice vb103 tl103.length vd103), Rm'.set at9 (tt ++ [⟨fq, bx, bf, tx⟩]), by omega, by go_num, rfl, (unhide E7).2.2.2, by omega, ?_, unhide ZL, ?_⟩
                    · rw [List.take_succ_eq_append_getElem hk, ← List.append_assoc, unhide HFK, show ((cutsN s ts : Nat) : Int) + ((k + 1 : Nat) : Int) = ((cutsN s ts : Nat) : Int) + (k : Int) + 1 by omega]
                      exact (unhide A103).2
                    · intro j v hj m hm hvm
                      by_cases ej : j = at9
                      · subst ej
                        have hjl : j < vs'.length := (List.getElem?_eq_some_iff.1 (unhide HV).1).1
                        rw [List.getElem?_set_self hjl] at hj
                        have ejv := Option.some.inj hj
                        rw [← ejv] at hvm
                        rcases (unhide B103).2.1 m hvm with h1 | h1
                        · exact (unhide E7).2.2.1 j _ (unhide HV).1 m hm h1
                        · have := unhide D103 m hm
                          omega
                      · rw [List.getElem?_set_ne (Ne.symm ej)] at hj
                        exact (unhide E7).2.2.1 j v hj m hm hvm
                  case measure => simp [intOf]; omega
                · have hb101 : Below yy.heap.size yy (yy.alloc (.cells #[.int .i64 fq, .bool bx, .bool bf, .string tx] 33)) := (Below.refl _ _).alloc (Nat.le_refl _) _
                  have E101 := hide (And.intro ((unhide E9).1.step hb101) ((unhide E9).2.below hb101 rfl))
                  have HN101 : Hid (HoldsF (yy.alloc (.cells #[.int .i64 fq, .bool bx, .bool bf, .string tx] 33)) (.slice (some ⟨yy.heap.size, 0, none⟩) 1 1) [⟨fq, bx, bf, tx⟩]) := hide (HoldsG.f (Or.inr ⟨yy.heap.size, 1, _, rfl, heap_alloc_new yy _, Nat.le_refl _, fun j hj => by
                    have hj4 : j = 0 ∨ j = 1 ∨ j = 2 ∨ j = 3 := by
                      have : j < 1 * 4 := hj
                      omega
                    rcases hj4 with rfl | rfl | rfl | rfl <;> rfl⟩))
                  clear hb101
                  go_simp
                  refine hK.out _ _ (unhide SY _ (unhide E101).2) (fun _ => ?_)
                  clear hK K
                  try simp only [Act.put, List.setIfInBounds_toArray, List.set_cons_zero, List.set_cons_succ, List.getElem_toArray, List.getElem_cons_zero, List.getElem_cons_succ]
                  generalize yy.heap.size = N101 at HN101 ⊢
                  generalize (yy.alloc (.cells #[.int .i64 fq, .bool bx, .bool bf, .string tx] 33)) = q101 at E101 HN101 ⊢
                  have hS101 := unhide SY _ (unhide E101).2
                  refine wpAnyH_ready (rs := [5]) (by kernel_rfl) (by simp) ?_
                  refine AllReadyH.cons rfl (fun K hK => ?_) (AllReadyH.nil)
                  have c5 := unhide SG _ (unhide E101).1
                  go_simp
                  clear c5
                  refine hK.out _ _ (unhide SY _ (unhide E101).2) (fun _ => ?_)
                  clear hK K
                  try simp only [Act.put, List.setIfInBounds_toArray, List.set_cons_zero, List.set_cons_succ, List.getElem_toArray, List.getElem_cons_zero, List.getElem_cons_succ]
                  refine wpAnyH_ready (rs := [11]) (by kernel_rfl) (by simp) ?_
                  refine AllReadyH.cons rfl (fun K hK => ?_) (AllReadyH.nil)
                  have hw103 := (unhide E101).1.b.size
                  refine step_append_p q101 (by rfl) _ _ (by rfl) w.heap.size (.slice va tt.length vc) (.slice (some ⟨N101, 0, none⟩) 1 1) tt [⟨fq, bx, bf, tx⟩] (by rfl) (by rfl) ((unhide E101).1.r.row at9 _ tt (unhide HV).1 (unhide HV).2.1) (unhide HN101) (unhide HV).2.2 (by show 1 ≤ 1000; decide) hw103 ?_
                  rintro v103 z103 hp103 hg103 ho103
                  obtain ⟨vb103, vd103, ev103⟩ := hp103.form
                  obtain ⟨tl103, htl103⟩ : ∃ tl, tt ++ [(⟨fq, bx, bf, tx⟩ : Fg)] = tl := ⟨_, rfl⟩
                  rw [htl103] at ev103
                  subst ev103
                  have A103 := hide ((unhide E101).1.app (unhide HV).1 (unhide HV).2.1 hg103 hp103 ho103 (unhide HSQ))
                  have B103 := hide (And.intro ((unhide E101).2.grown9 hg103 (fun m hm => (unhide E7).2.2.1 at9 _ (unhide HV).1 m hm)) (And.intro ho103 (And.intro htl103 (show q101.heap.size ≤ z103.heap.size from hg103.size))))
                  have D103 : Hid (∀ m, (Value.slice (some ⟨g1, o1, none⟩) F.length uc).ownBlock = some m → m < q101.heap.size) := hide fun m hm => by
                    rcases (unhide E101).2 with ⟨ad, cp, e, e0⟩ | ⟨m', cp, cu, e, h2, _⟩
                    · rw [e0] at hk
                      exact absurd hk (by simp)
                    · rw [e] at hm
                      have e' : m' = m := Option.some.inj hm
                      rw [← e']
                      exact (Array.getElem?_eq_some_iff.1 h2).1
                  clear hp103 hg103 ho103 htl103 hw103
                  refine hK.out _ _ (unhide SY _ (unhide B103).1) (fun _ => ?_)
                  clear hK K
                  try simp only [Act.put, List.setIfInBounds_toArray, List.set_cons_zero, List.set_cons_succ, List.getElem_toArray, List.getElem_cons_zero, List.getElem_cons_succ]
                  refine wpAnyH_take (i := 12) (v := ?vpa11_12) rfl (by kernel_rfl) (by kernel_rfl) (by kernel_rfl) (fun _ _ _ h => h) (Or.inl ⟨by rfl, ?hypa11_12⟩) (by assumption) ?_
                  case hypa11_12 =>
                    intro w hSw
                    try dsimp only at hSw
                    go_simp
                    try with_reducible rfl
                  try simp only [Act.put, List.setIfInBounds_toArray, List.set_cons_zero, List.set_cons_succ, List.getElem_toArray, List.getElem_cons_zero, List.getElem_cons_succ]
                  refine wpAnyH_ready (rs := [13]) (by kernel_rfl) (by simp) ?_
                  refine AllReadyH.cons rfl (fun K hK => ?_) (AllReadyH.nil)
                  have hG9 := (unhide A103).1
                  have c9 : z103.cell? ⟨G, at9, none⟩ = some (.slice va tt.length vc) := by rw [cell_of_row _ _ _ _ _ _ hG9, List.getElem?_toArray]; exact (unhide HV).1
                  have fz9 := frz hG9 at9
                  have ZL := hide (HoldsG.set9 (k := at9) (x := (.slice vb103 tl103.length vd103)) (unhide B103).1 hG9)
                  go_simp
                  clear c9 fz9 hG9
                  refine hK.out _ _ (unhide SY _ (unhide ZL)) (fun _ => ?_)
                  clear hK K
                  try simp only [Act.put, List.setIfInBounds_toArray, List.set_cons_zero, List.set_cons_succ, List.getElem_toArray, List.getElem_cons_zero, List.getElem_cons_succ]
                  refine wpAnyH_done (by kernel_rfl) ?_ _
                  go_wp2_with fail
                  go_roundw
                  case rel =>
                    refine ⟨k + 1, lost', vs'.set at9 (.slice vb103 tl103.length vd103), Rm'.set at9 (tt ++ [⟨fq, bx, bf, tx⟩]), by omega, by go_num, rfl, (unhide E7).2.2.2, by omega, ?_, unhide ZL, ?_⟩
                    · rw [List.take_succ_eq_append_getElem hk, ← List.append_assoc, unhide HFK, show ((cutsN s ts : Nat) : Int) + ((k + 1 : Nat) : Int) = ((cutsN s ts : Nat) : Int) + (k : Int) + 1 by omega]
                      exact (unhide A103).2
                    · intro j v hj m hm hvm
                      by_cases ej : j = at9
                      · subst ej
                        have hjl : j < vs'.length := (List.getElem?_eq_some_iff.1 (unhide HV).1).1
                        rw [List.getElem?_set_self hjl] at hj
                        have ejv := Option.some.inj hj
                        rw [← ejv] at hvm
                        rcases (unhide B103).2.1 m hvm with h1 | h1
                        · exact (unhide E7).2.2.1 j _ (unhide HV).1 m hm h1
                        · have := unhide D103 m hm
                          omega
                      · rw [List.getElem?_set_ne (Ne.symm ej)] at hj
                        exact (unhide E7).2.2.1 j v hj m hm hvm
                  case measure => simp [intOf]; omega
              · go_wp2_with fail
                refine (unhide C4 _ (unhide E7).1.b).mono ?_
                rintro e w7 ⟨r7, rfl, hr7, hw⟩
                replace hw := hw.symm
                subst hw
                clear hr7
                by_cases hr0z : r7 = 0
                · subst hr0z
                  go_wp2_with fail
                  go_roundw
                  case rel =>
                    refine ⟨k + 1, lost' + 1, vs', Rm', by omega, by go_num, by go_num, (fun h => by cases h), by omega, ?_, (unhide E7).2.1, (unhide E7).2.2.1⟩
                    have hst := (unhide HFF).2.2 k hk
                    rw [List.take_succ_eq_append_getElem hk, ← List.append_assoc]
                    have hz := (unhide E7).1
                    exact ⟨hz.t, hz.r, hz.n, by rw [show ((cutsN s ts : Nat) : Int) + ((k + 1 : Nat) : Int) = ((cutsN s ts : Nat) : Int) + (k : Int) + 1 by omega]; exact hz.y.lose hst, hz.b, hz.bG⟩
                  case measure => simp [intOf]; omega
                · have hr7b : ((r7 : Int) == 0) = false := beq_eq_false_iff_ne.2 (by omega)
                  go_wp2_with fail
                  refine (unhide C5 _ (unhide E7).1.b).mono ?_
                  rintro e w8 ⟨at9, rfl, hat, hw⟩
                  replace hw := hw.symm
                  subst hw
                  have hat' : at9 < links := by omega
                  have hatI : (at9 : Int) < (links : Int) := by omega
                  clear hat C4 C5
                  obtain ⟨tt, htt⟩ : ∃ tt, Rm'[at9]? = some tt := ⟨_, List.getElem?_eq_getElem (by rw [(unhide E7).1.n]; exact hat')⟩
                  obtain ⟨v9, hv9⟩ : ∃ v9, vs'[at9]? = some v9 := ⟨_, List.getElem?_eq_getElem (by rw [(unhide E7).1.r.len, (unhide E7).1.n]; exact hat')⟩
                  obtain ⟨va, vc, ev⟩ := ((unhide E7).1.r.row at9 v9 tt hv9 htt).form
                  subst ev
                  have HV : Hid (vs'[at9]? = some (.slice va tt.length vc) ∧ Rm'[at9]? = some tt ∧ tt.length ≤ 1000) := hide ⟨hv9, htt, by
                    have h1 := totL_set Rm' at9 tt [] htt
                    have h2 := (unhide E7).1.y.tot
                    have h3 : ((cuts s 0 ts).flatten ++ F.take k).length ≤ 1000 := by rw [List.length_append, cuts_flen, List.length_take]; omega
                    simp only [List.length_nil] at h1
                    omega⟩
                  clear hv9 htt
                  obtain ⟨g1, o1, p1, e1, _⟩ := (unhide E7).2.1.f.2 k hk
                  injection e1 with e1 _ e3
                  subst e1
                  clear e3
                  have HSQ0 := (unhide HFF).2.2 k hk
                  obtain ⟨f, hfk⟩ : ∃ f, F[k] = f := ⟨_, rfl⟩
                  obtain ⟨fq, bx, bf, tx⟩ := f
                  rw [hfk] at HSQ0
                  have HSQ : Hid ((⟨fq, bx, bf, tx⟩ : Fg).seq = ((cutsN s ts : Nat) : Int) + (k : Int)) := hide HSQ0
                  have HFK := hide hfk
                  clear HSQ0 hfk
                  have SY : Hid (∀ y9, HoldsG y9 (.slice (some ⟨g1, o1, none⟩) F.length uc) F → (y9.cell? ⟨g1, o1 + k * 4, none⟩ = some (.int .i64 fq) ∧ y9.cell? ⟨g1, o1 + k * 4 + 1, none⟩ = some (.bool bx) ∧ y9.cell? ⟨g1, o1 + k * 4 + 2, none⟩ = some (.bool bf) ∧ y9.cell? ⟨g1, o1 + k * 4 + 3, none⟩ = some (.string tx))) := hide fun y9 hz => by
                    obtain ⟨g', o', p', e', _, c0, c1, c2, c3⟩ := hz.f.2 k hk
                    cases e'
                    rw [unhide HFK] at c0 c1 c2 c3
                    exact ⟨c0, c1, c2, c3⟩
                  have SG : Hid (∀ y9, Lz w y9 s links G tv5 (ts ++ [t]) vs' Rm' ((cuts s 0 ts).flatten ++ F.take k) ((cutsN s ts : Nat) + (k : Int)) lost' → y9.cell? ⟨G, at9, none⟩ = some (.slice va tt.length vc)) := hide fun y9 hz => by
                    rw [cell_of_row _ _ _ _ _ _ hz.r.b, List.getElem?_toArray]
                    exact (unhide HV).1
                  go_upto_region 27 with fail
                  have E9 : Hid (Lz w wr.drew s links G tv5 (ts ++ [t]) vs' Rm' ((cuts s 0 ts).flatten ++ F.take k) ((cutsN s ts : Nat) + (k : Int)) lost' ∧ HoldsG wr.drew (.slice (some ⟨g1, o1, none⟩) F.length uc) F) := hide ⟨(unhide E7).1.step ((Below.refl _ _).drew), (unhide E7).2.1.below ((Below.refl _ _).drew) rfl⟩
                  refine wp_region_held_drew (S := fun y9 => y9.cell? ⟨g1, o1 + k * 4, none⟩ = some (.int .i64 fq) ∧ y9.cell? ⟨g1, o1 + k * 4 + 1, none⟩ = some (.bool bx) ∧ y9.cell? ⟨g1, o1 + k * 4 + 2, none⟩ = some (.bool bf) ∧ y9.cell? ⟨g1, o1 + k * 4 + 3, none⟩ = some (.string tx)) (by kernel_rfl) (unhide SY _ (unhide E9).2) (fun hHeld => ?_)
                  generalize wr.drew = yy at E9 hHeld ⊢
                  refine wpAnyH_take (i := 0) (v := ?vpb1_0) rfl (by kernel_rfl) (by kernel_rfl) (by kernel_rfl) (fun _ _ _ h => h) (Or.inl ⟨by rfl, ?hypb1_0⟩) (by assumption) ?_
                  case hypb1_0 =>
                    intro w hSw
                    try dsimp only at hSw
                    go_simp
                    try with_reducible rfl
                  try simp only [Act.put, List.setIfInBounds_toArray, List.set_cons_zero, List.set_cons_succ, List.getElem_toArray, List.getElem_cons_zero]
                  refine wpAnyH_take (i := 1) (v := ?vpb2_1) rfl (by kernel_rfl) (by kernel_rfl) (by kernel_rfl) (fun _ _ _ h => h) (Or.inl ⟨by rfl, ?hypb2_1⟩) (by assumption) ?_
                  case hypb2_1 =>
                    intro w hSw
                    try dsimp only at hSw
                    go_simp
                    try with_reducible rfl
                  try simp only [Act.put, List.setIfInBounds_toArray, List.set_cons_zero, List.set_cons_succ, List.getElem_toArray, List.getElem_cons_zero, List.getElem_cons_succ]
                  refine wpAnyH_take (i := 2) (v := ?vpb3_2) rfl (by kernel_rfl) (by kernel_rfl) (by kernel_rfl) (fun _ _ _ h => h) (Or.inl ⟨by rfl, ?hypb3_2⟩) (by assumption) ?_
                  case hypb3_2 =>
                    intro w hSw
                    try dsimp only at hSw
                    go_simp
                    try with_reducible rfl
                  try simp only [Act.put, List.setIfInBounds_toArray, List.set_cons_zero, List.set_cons_succ, List.getElem_toArray, List.getElem_cons_zero, List.getElem_cons_succ]
                  refine wpAnyH_take (i := 3) (v := ?vpb4_3) rfl (by kernel_rfl) (by kernel_rfl) (by kernel_rfl) (fun _ _ _ h => h) (Or.inl ⟨by rfl, ?hypb4_3⟩) (by assumption) ?_
                  case hypb4_3 =>
                    intro w hSw
                    try dsimp only at hSw
                    go_simp
                    try with_reducible rfl
                  try simp only [Act.put, List.setIfInBounds_toArray, List.set_cons_zero, List.set_cons_succ, List.getElem_toArray, List.getElem_cons_zero, List.getElem_cons_succ]
                  refine wpAnyH_take (i := 4) (v := ?vpb5_4) rfl (by kernel_rfl) (by kernel_rfl) (by kernel_rfl) (fun _ _ _ h => h) (Or.inl ⟨by rfl, ?hypb5_4⟩) (by assumption) ?_
                  case hypb5_4 =>
                    intro w hSw
                    try dsimp only at hSw
                    go_simp
                    try with_reducible rfl
                  try simp only [Act.put, List.setIfInBounds_toArray, List.set_cons_zero, List.set_cons_succ, List.getElem_toArray, List.getElem_cons_zero, List.getElem_cons_succ]
                  refine wpAnyH_take (i := 6) (v := ?vpb6_6) rfl (by kernel_rfl) (by kernel_rfl) (by kernel_rfl) (fun _ _ _ h => h) (Or.inl ⟨by rfl, ?hypb6_6⟩) (by assumption) ?_
                  case hypb6_6 =>
                    intro w hSw
                    try dsimp only at hSw
                    go_simp
                    try with_reducible rfl
                  try simp only [Act.put, List.setIfInBounds_toArray, List.set_cons_zero, List.set_cons_succ, List.getElem_toArray, List.getElem_cons_zero, List.getElem_cons_succ]
                  refine wpAnyH_take (i := 7) (v := ?vpb7_7) rfl (by kernel_rfl) (by kernel_rfl) (by kernel_rfl) (fun _ _ _ h => h) (Or.inl ⟨by rfl, ?hypb7_7⟩) (by assumption) ?_
                  case hypb7_7 =>
                    intro w hSw
                    try dsimp only at hSw
                    go_simp
                    try with_reducible rfl
                  try simp only [Act.put, List.setIfInBounds_toArray, List.set_cons_zero, List.set_cons_succ, List.getElem_toArray, List.getElem_cons_zero, List.getElem_cons_succ]
                  refine wpAnyH_take (i := 8) (v := ?vpb8_8) rfl (by kernel_rfl) (by kernel_rfl) (by kernel_rfl) (fun _ _ _ h => h) (Or.inl ⟨by rfl, ?hypb8_8⟩) (by assumption) ?_
                  case hypb8_8 =>
                    intro w hSw
                    try dsimp only at hSw
                    go_simp
                    try with_reducible rfl
                  try simp only [Act.put, List.setIfInBounds_toArray, List.set_cons_zero, List.set_cons_succ, List.getElem_toArray, List.getElem_cons_zero, List.getElem_cons_succ]
                  refine wpAnyH_take (i := 9) (v := ?vpb9_9) rfl (by kernel_rfl) (by kernel_rfl) (by kernel_rfl) (fun _ _ _ h => h) (Or.inl ⟨by rfl, ?hypb9_9⟩) (by assumption) ?_
                  case hypb9_9 =>
                    intro w hSw
                    try dsimp only at hSw
                    go_simp
                    try with_reducible rfl
                  try simp only [Act.put, List.setIfInBounds_toArray, List.set_cons_zero, List.set_cons_succ, List.getElem_toArray, List.getElem_cons_zero, List.getElem_cons_succ]
                  refine wpAnyH_ready (rs := [5, 10]) (by kernel_rfl) (by simp) ?_
                  refine AllReadyH.cons rfl (fun K hK => ?_) (AllReadyH.cons rfl (fun K hK => ?_) (AllReadyH.nil))
                  · have c5 := unhide SG _ (unhide E9).1
                    go_simp
                    clear c5
                    refine hK.out _ _ (unhide SY _ (unhide E9).2) (fun _ => ?_)
                    clear hK K
                    try simp only [Act.put, List.setIfInBounds_toArray, List.set_cons_zero, List.set_cons_succ, List.getElem_toArray, List.getElem_cons_zero, List.getElem_cons_succ]
                    refine wpAnyH_ready (rs := [10]) (by kernel_rfl) (by simp) ?_
                    refine AllReadyH.cons rfl (fun K hK => ?_) (AllReadyH.nil)
                    have hb102 : Below yy.heap.size yy (yy.alloc (.cells #[.int .i64 fq, .bool bx, .bool bf, .string tx] 33)) := (Below.refl _ _).alloc (Nat.le_refl _) _
                    have E102 := hide (And.intro ((unhide E9).1.step hb102) ((unhide E9).2.below hb102 rfl))
                    have HN102 : Hid (HoldsF (yy.alloc (.cells #[.int .i64 fq, .bool bx, .bool bf, .string tx] 33)) (.slice (some ⟨yy.heap.size, 0, none⟩) 1 1) [⟨fq, bx, bf, tx⟩]) := hide (HoldsG.f (Or.inr ⟨yy.heap.size, 1, _, rfl, heap_alloc_new yy _, Nat.le_refl _, fun j hj => by
                      have hj4 : j = 0 ∨ j = 1 ∨ j = 2 ∨ j = 3 := by
                        have : j < 1 * 4 := hj
                        omega
                      rcases hj4 with rfl | rfl | rfl | rfl <;> rfl⟩))
                    clear hb102
                    go_simp
                    refine hK.out _ _ (unhide SY _ (unhide E102).2) (fun _ => ?_)
                    clear hK K
                    try simp only [Act.put, List.setIfInBounds_toArray, List.set_cons_zero, List.set_cons_succ, List.getElem_toArray, List.getElem_cons_zero, List.getElem_cons_succ]
                    generalize yy.heap.size = N102 at HN102 ⊢
                    generalize (yy.alloc (.cells #[.int .i64 fq, .bool bx, .bool bf, .string tx] 33)) = q102 at E102 HN102 ⊢
                    have hS102 := unhide SY _ (unhide E102).2
                    refine wpAnyH_ready (rs := [11]) (by kernel_rfl) (by simp) ?_
                    refine AllReadyH.cons rfl (fun K hK => ?_) (AllReadyH.nil)
                    have hw103 := (unhide E102).1.b.size
                    refine step_append_p q102 (by rfl) _ _ (by rfl) w.heap.size (.slice va tt.length vc) (.slice (some ⟨N102, 0, none⟩) 1 1) tt [⟨fq, bx, bf, tx⟩] (by rfl) (by rfl) ((unhide E102).1.r.row at9 _ tt (unhide HV).1 (unhide HV).2.1) (unhide HN102) (unhide HV).2.2 (by show 1 ≤ 1000; decide) hw103 ?_
                    rintro v103 z103 hp103 hg103 ho103
                    obtain ⟨vb103, vd103, ev103⟩ := hp103.form
                    obtain ⟨tl103, htl103⟩ : ∃ tl, tt ++ [(⟨fq, bx, bf, tx⟩ : Fg)] = tl := ⟨_, rfl⟩
                    rw [htl103] at ev103
                    subst ev103
                    have A103 := hide ((unhide E102).1.app (unhide HV).1 (unhide HV).2.1 hg103 hp103 ho103 (unhide HSQ))
                    have B103 := hide (And.intro ((unhide E102).2.grown9 hg103 (fun m hm => (unhide E7).2.2.1 at9 _ (unhide HV).1 m hm)) (And.intro ho103 (And.intro htl103 (show q102.heap.size ≤ z103.heap.size from hg103.size))))
                    have D103 : Hid (∀ m, (Value.slice (some ⟨g1, o1, none⟩) F.length uc).ownBlock = some m → m < q102.heap.size) := hide fun m hm => by
                      rcases (unhide E102).2 with ⟨ad, cp, e, e0⟩ | ⟨m', cp, cu, e, h2, _⟩
                      · rw [e0] at hk
                        exact absurd hk (by simp)
                      · rw [e] at hm
                        have e' : m' = m := Option.some.inj hm
                        rw [← e']
                        exact (Array.getElem?_eq_some_iff.1 h2).1
                    clear hp103 hg103 ho103 htl103 hw103
                    refine hK.out _ _ (unhide SY _ (unhide B103).1) (fun _ => ?_)
                    clear hK K
                    try simp only [Act.put, List.setIfInBounds_toArray, List.set_cons_zero, List.set_cons_succ, List.getElem_toArray, List.getElem_cons_zero, List.getElem_cons_succ]
                    refine wpAnyH_take (i := 12) (v := ?vpb10_12) rfl (by kernel_rfl) (by kernel_rfl) (by kernel_rfl) (fun _ _ _ h => h) (Or.inl ⟨by rfl, ?hypb10_12⟩) (by assumption) ?_
                    case hypb10_12 =>
                      intro w hSw
                      try dsimp only at hSw
                      go_simp
                      try with_reducible rfl
                    try simp only [Act.put, List.setIfInBounds_toArray, List.set_cons_zero, List.set_cons_succ, List.getElem_toArray, List.getElem_cons_zero, List.getElem_cons_succ]
                    refine wpAnyH_ready (rs := [13]) (by kernel_rfl) (by simp) ?_
                    refine AllReadyH.cons rfl (fun K hK => ?_) (AllReadyH.nil)
                    have hG9 := (unhide A103).1
                    have c9 : z103.cell? ⟨G, at9, none⟩ = some (.slice va tt.length vc) := by rw [cell_of_row _ _ _ _ _ _ hG9, List.getElem?_toArray]; exact (unhide HV).1
                    have fz9 := frz hG9 at9
                    have ZL := hide (HoldsG.set9 (k := at9) (x := (.slice vb103 tl103.length vd103)) (unhide B103).1 hG9)
                    go_simp
                    clear c9 fz9 hG9
                    refine hK.out _ _ (unhide SY _ (unhide ZL)) (fun _ => ?_)
                    clear hK K
                    try simp only [Act.put, List.setIfInBounds_toArray, List.set_cons_zero, List.set_cons_succ, List.getElem_toArray, List.getElem_cons_zero, List.getElem_cons_succ]
                    refine wpAnyH_done (by kernel_rfl) ?_ _
                    go_wp2_with fail
                    go_roundw
                    case rel =>
                      refine ⟨k + 1, lost', vs'.set at9 (.slice vb103 tl103.length vd103), Rm'.set at9 (tt ++ [⟨fq, bx, bf, tx⟩]), by omega, by go_num, rfl, (unhide E7).2.2.2, by omega, ?_, unhide ZL, ?_⟩
                      · rw [List.take_succ_eq_append_getElem hk, ← List.append_assoc, unhide HFK, show ((cutsN s ts : Nat) : Int) + ((k + 1 : Nat) : Int) = ((cutsN s ts : Nat) : Int) + (k : Int) + 1 by omega]
                        exact (unhide A103).2
                      · intro j v hj m hm hvm
                        by_cases ej : j = at9
                        · subst ej
                          have hjl : j < vs'.length := (List.getElem?_eq_some_iff.1 (unhide HV).1).1
                          rw [List.getElem?_set_self hjl] at hj
                          have ejv := Option.some.inj hj
                          rw [← ejv] at hvm
                          rcases (unhide B103).2.1 m hvm with h1 | h1
                          · exact (unhide E7).2.2.1 j _ (unhide HV).1 m hm h1
                          · have := unhide D103 m hm
                            omega
                        · rw [List.getElem?_set_ne (Ne.symm ej)] at hj
                          exact (unhide E7).2.2.1 j v hj m hm hvm
                    case measure => simp [intOf]; omega
                  · have hb101 : Below yy.heap.size yy (yy.alloc (.cells #[.int .i64 fq, .bool bx, .bool bf, .string tx] 33)) := (Below.refl _ _).alloc (Nat.le_refl _) _
                    have E101 := hide (And.intro ((unhide E9).1.step hb101) ((unhide E9).2.below hb101 rfl))
                    have HN101 : Hid (HoldsF (yy.alloc (.cells #[.int .i64 fq, .bool bx, .bool bf, .string tx] 33)) (.slice (some ⟨yy.heap.size, 0, none⟩) 1 1) [⟨fq, bx, bf, tx⟩]) := hide (HoldsG.f (Or.inr ⟨yy.heap.size, 1, _, rfl, heap_alloc_new yy _, Nat.le_refl _, fun j hj => by
                      have hj4 : j = 0 ∨ j = 1 ∨ j = 2 ∨ j = 3 := by
                        have : j < 1 * 4 := hj
                        omega
                      rcases hj4 with rfl | rfl | rfl | rfl <;> rfl⟩))
                    clear hb101
                    go_simp
                    refine hK.out _ _ (unhide SY _ (unhide E101).2) (fun _ => ?_)
                    clear hK K
                    try simp only [Act.put, List.setIfInBounds_toArray, List.set_cons_zero, List.set_cons_succ, List.getElem_toArray, List.getElem_cons_zero, List.getElem_cons_succ]
                    generalize yy.heap.size = N101 at HN101 ⊢
                    generalize (yy.alloc (.cells #[.int .i64 fq, .bool bx, .bool bf, .string tx] 33)) = q101 at E101 HN101 ⊢
                    have hS101 := unhide SY _ (unhide E101).2
                    refine wpAnyH_ready (rs := [5]) (by kernel_rfl) (by simp) ?_
                    refine AllReadyH.cons rfl (fun K hK => ?_) (AllReadyH.nil)
                    have c5 := unhide SG _ (unhide E101).1
                    go_simp
                    clear c5
                    refine hK.out _ _ (unhide SY _ (unhide E101).2) (fun _ => ?_)
                    clear hK K
                    try simp only [Act.put, List.setIfInBounds_toArray, List.set_cons_zero, List.set_cons_succ, List.getElem_toArray, List.getElem_cons_zero, List.getElem_cons_succ]
                    refine wpAnyH_ready (rs := [11]) (by kernel_rfl) (by simp) ?_
                    refine AllReadyH.cons rfl (fun K hK => ?_) (AllReadyH.nil)
                    have hw103 := (unhide E101).1.b.size
                    refine step_append_p q101 (by rfl) _ _ (by rfl) w.heap.size (.slice va tt.length vc) (.slice (some ⟨N101, 0, none⟩) 1 1) tt [⟨fq, bx, bf, tx⟩] (by rfl) (by rfl) ((unhide E101).1.r.row at9 _ tt (unhide HV).1 (unhide HV).2.1) (unhide HN101) (unhide HV).2.2 (by show 1 ≤ 1000; decide) hw103 ?_
                    rintro v103 z103 hp103 hg103 ho103
                    obtain ⟨vb103, vd103, ev103⟩ := hp103.form
                    obtain ⟨tl103, htl103⟩ : ∃ tl, tt ++ [(⟨fq, bx, bf, tx⟩ : Fg)] = tl := ⟨_, rfl⟩
                    rw [htl103] at ev103
                    subst ev103
                    have A103 := hide ((unhide E101).1.app (unhide HV).1 (unhide HV).2.1 hg103 hp103 ho103 (unhide HSQ))
                    have B103 := hide (And.intro ((unhide E101).2.grown9 hg103 (fun m hm => (unhide E7).2.2.1 at9 _ (unhide HV).1 m hm)) (And.intro ho103 (And.intro htl103 (show q101.heap.size ≤ z103.heap.size from hg103.size))))
                    have D103 : Hid (∀ m, (Value.slice (some ⟨g1, o1, none⟩) F.length uc).ownBlock = some m → m < q101.heap.size) := hide fun m hm => by
                      rcases (unhide E101).2 with ⟨ad, cp, e, e0⟩ | ⟨m', cp, cu, e, h2, _⟩
                      · rw [e0] at hk
                        exact absurd hk (by simp)
                      · rw [e] at hm
                        have e' : m' = m := Option.some.inj hm
                        rw [← e']
                        exact (Array.getElem?_eq_some_iff.1 h2).1
                    clear hp103 hg103 ho103 htl103 hw103
                    refine hK.out _ _ (unhide SY _ (unhide B103).1) (fun _ => ?_)
                    clear hK K
                    try simp only [Act.put, List.setIfInBounds_toArray, List.set_cons_zero, List.set_cons_succ, List.getElem_toArray, List.getElem_cons_zero, List.getElem_cons_succ]
                    refine wpAnyH_take (i := 12) (v := ?vpb11_12) rfl (by kernel_rfl) (by kernel_rfl) (by kernel_rfl) (fun _ _ _ h => h) (Or.inl ⟨by rfl, ?hypb11_12⟩) (by assumption) ?_
                    case hypb11_12 =>
                      intro w hSw
                      try dsimp only at hSw
                      go_simp
                      try with_reducible rfl
                    try simp only [Act.put, List.setIfInBounds_toArray, List.set_cons_zero, List.set_cons_succ, List.getElem_toArray, List.getElem_cons_zero, List.getElem_cons_succ]
                    refine wpAnyH_ready (rs := [13]) (by kernel_rfl) (by simp) ?_
                    refine AllReadyH.cons rfl (fun K hK => ?_) (AllReadyH.nil)
                    have hG9 := (unhide A103).1
                    have c9 : z103.cell? ⟨G, at9, none⟩ = some (.slice va tt.length vc) := by rw [cell_of_row _ _ _ _ _ _ hG9, List.getElem?_toArray]; exact (unhide HV).1
                    have fz9 := frz hG9 at9
                    have ZL := hide (HoldsG.set9 (k := at9) (x := (.slice vb103 tl103.length vd103)) (unhide B103).1 hG9)
                    go_simp
                    clear c9 fz9 hG9
                    refine hK.out _ _ (unhide SY _ (unhide ZL)) (fun _ => ?_)
                    clear hK K
                    try simp only [Act.put, List.setIfInBounds_toArray, List.set_cons_zero, List.set_cons_succ, List.getElem_toArray, List.getElem_cons_zero, List.getElem_cons_succ]
                    refine wpAnyH_done (by kernel_rfl) ?_ _
                    go_wp2_with fail
                    go_roundw
                    case rel =>
                      refine ⟨k + 1, lost', vs'.set at9 (.slice vb103 tl103.length vd103), Rm'.set at9 (tt ++ [⟨fq, bx, bf, tx⟩]), by omega, by go_num, rfl, (unhide E7).2.2.2, by omega, ?_, unhide ZL, ?_⟩
                      · rw [List.take_succ_eq_append_getElem hk, ← List.append_assoc, unhide HFK, show ((cutsN s ts : Nat) : Int) + ((k + 1 : Nat) : Int) = ((cutsN s ts : Nat) : Int) + (k : Int) + 1 by omega]
                        exact (unhide A103).2
                      · intro j v hj m hm hvm
                        by_cases ej : j = at9
                        · subst ej
                          have hjl : j < vs'.length := (List.getElem?_eq_some_iff.1 (unhide HV).1).1
                          rw [List.getElem?_set_self hjl] at hj
                          have ejv := Option.some.inj hj
                          rw [← ejv] at hvm
                          rcases (unhide B103).2.1 m hvm with h1 | h1
                          · exact (unhide E7).2.2.1 j _ (unhide HV).1 m hm h1
                          · have := unhide D103 m hm
                            omega
                        · rw [List.getElem?_set_ne (Ne.symm ej)] at hj
                          exact (unhide E7).2.2.1 j v hj m hm hvm
                    case measure => simp [intOf]; omega
            · have ekF : k = F.length := by omega
              have dkF : ¬ ((k : Int) < (F.length : Int)) := by omega
              have EK := hide ekF
              clear ekF
              go_wp2_with fail
              go_roundw
              case rel =>
                have eF := (unhide HFF)
                refine ⟨i + 1, lost', ts ++ [t], vs', Rm', by omega, by go_num, by rw [List.length_append, (unhide HT).1]; rfl, ?_, ?_, rfl, (unhide E7).2.2.2, by have := unhide EK; omega, ?_, ?_⟩
                · intro j hj
                  rw [List.length_append] at hj
                  by_cases ej : j < ts.length
                  · obtain ⟨r', h1, h2⟩ := (unhide HT).2.1 j ej
                    exact ⟨r', by rw [List.getElem_append_left ej]; exact h1, h2⟩
                  · have ejt : j = ts.length := by simp at hj; omega
                    subst ejt
                    refine ⟨r, ?_, (unhide HTD).2⟩
                    rw [List.getElem_append_right (Nat.le_refl _)]
                    simp only [Nat.sub_self, List.getElem_cons_zero]
                    rw [(unhide HTD).1, (unhide HC).1, (unhide HT).1]
                · rw [cutsN_snoc, ← eF.2.1]
                  go_num
                · rw [cutsN_snoc, ← eF.2.1]
                  omega
                · have hz := (unhide E7).1
                  rw [unhide EK, List.take_length] at hz
                  rw [cuts_snoc, List.flatten_append, show (0 : Int) + ((cutsN s ts : Nat) : Int) = ((cutsN s ts : Nat) : Int) by omega, eF.1, cutsN_snoc, ← eF.2.1, show [F].flatten = F by simp, show ((cutsN s ts + F.length : Nat) : Int) = ((cutsN s ts : Nat) : Int) + (F.length : Int) by omega]
                  exact hz
              case measure => simp [intOf]; omega
    · have di : ¬ ((i : Int) < 5) := by omega
      have ei : i = 5 := by omega
      subst ei
      have CN := hide fun z => iBnew (links : Int) z
      rw [bnL_yes (by omega)] at CN
      go_wp2_with fail
      refine (unhide CN _).mono ?_
      rintro e w3 ⟨b1, d1', rfl, hI3, _, hb3⟩
      rw [List.length_replicate] at hI3 ⊢
      obtain ⟨tva, tvc, etv⟩ := own_form (unhide E1).t
      subst etv
      have E2 := hide (And.intro ((unhide E1).step hb3) hI3)
      clear hI3 hb3 E1 CN
      go_upto_region 30 with fail
      refine gen_world (fun q => Lq w q G w3.heap.size vs Rm (List.replicate links (-1)) [] b1 none d1' 0 (.slice (some ⟨w3.heap.size + 1, 0, none⟩) 0 0) [] (.slice tva ts.length tvc) ts) ?_ ?_
      · obtain ⟨hN0, hN1, hb0, hs0⟩ := new2b w3 (.cells #[.slice b1 links d1', .slice none 0 0] 29) (.cells #[] 9)
        obtain ⟨hz, hI⟩ := unhide E2
        have hz' := hz.step hb0
        refine ⟨HoldsT.own hz'.t, hz'.r.b, hz'.r.len, fun k v t h1 h2 => (hz'.r.row k v t h1 h2).v, by rw [List.length_replicate]; exact hN0, by rw [List.length_replicate]; exact hI.below hb0 rfl, holdsG_nil _ _ _, ⟨rfl, Or.inr ⟨w3.heap.size + 1, 0, #[], rfl, by have := hz.b.size; omega, hN1, Nat.le_refl _, Nat.zero_le _, rfl, rfl⟩⟩, fun _ m hm e => ?_, hz'.b, hz.b.size, hz.bG⟩
        have h1 := (World.ownsRow.lt hz.t m hm).2
        have e' : w3.heap.size + 1 = m := Option.some.inj e
        omega
      intro q3 hq3
      have E3 := hide (And.intro hq3 (unhide E2).1.y)
      have HRn := hide (unhide E2).1.n
      generalize w3.heap.size + 1 = GB at *
      generalize w3.heap.size = BB at *
      clear hq3 E2
      go_wp2_with fail
      go_loopw [19, 20] (fun gv iv wr => ∃ (i : Nat) (vs : List Value) (Rm : List (List Fg)) (L : List Int) (P : List Fg) (a1 a2 : Option Addr) (c1 c2 : Nat) (HS : List Fg) (GI : List Nat), i ≤ 300 ∧ iv = .int .i64 i ∧ Lq w wr G BB vs Rm L P a1 a2 c1 c2 gv (GI.map fun j => catP (((cuts s 0 ts)[j]?).getD [])) (.slice tva ts.length tvc) ts ∧ Hl (cuts s 0 ts) L P Rm HS GI ∧ (lost = 0 → Al (cuts s 0 ts) P Rm HS GI) ∧ Wait (cutsN s ts) Rm i ∧ Rm.length = links ∧ totL Rm ≤ cutsN s ts) (fun _ iv _ => 300 - (intOf iv).toNat)
      case atStart =>
        obtain ⟨hq, hy⟩ := unhide E3
        have hn := unhide HRn
        have hB := blk_cuts s ts
        have hh := hy.hear hB (by omega)
        rw [hn] at hh
        refine ⟨0, vs, Rm, List.replicate links (-1), [], b1, none, d1', 0, [], [], Nat.zero_le _, rfl, hq, hh, fun h0 => ?_, Wait.start _ _ (by omega), hn, by have := hy.tot; rw [cuts_flen] at this; exact this⟩
        subst h0
        exact hy.all9 hB
      case round =>
        obtain ⟨i, vs', Rm', L, P, a1, a2, c1, c2, HS, GI, hi300, rfl, hq, hh, ha, hwt, hn, htot⟩ := hrel
        have E4 := hide (And.intro hq (And.intro hh (And.intro ha (And.intro hwt (And.intro hn htot)))))
        clear hq hh ha hwt hn htot E3
        by_cases hi3 : i < 300
        · have di3 : (i : Int) < 300 := by omega
          have C6 : Hid (∀ z, Below w.heap.size w z → Calls Try.prog 25 #[.slice sa2 n2 cap2, .int .i64 (100 + (i : Int)), .int .i64 (links : Int)] z fun e w' => ∃ r : Nat, e = .returned (.int .i64 r) ∧ (r < links ∨ r = 0) ∧ w' = z) := hide fun z hz => by
            have h := unhide C2 z (100 + i) links hz (by omega) (by omega)
            rwa [show (((100 + i : Nat)) : Int) = 100 + (i : Int) by omega] at h
          go_wp2_with fail
          refine (unhide C6 _ (unhide E4).1.bw).mono ?_
          rintro e w5 ⟨at9, rfl, hat, hw⟩
          replace hw := hw.symm
          subst hw
          have hat_at9 : at9 < links := by omega
          have hatI : (at9 : Int) < (links : Int) := by omega
          clear hat C6
          obtain ⟨tt, htt⟩ : ∃ tt, Rm'[at9]? = some tt := ⟨_, List.getElem?_eq_getElem (by rw [(unhide E4).2.2.2.2.1]; exact hat_at9)⟩
          obtain ⟨v9, hv9⟩ : ∃ v9, vs'[at9]? = some v9 := ⟨_, List.getElem?_eq_getElem (by rw [(unhide E4).1.len, (unhide E4).2.2.2.2.1]; exact hat_at9)⟩
          obtain ⟨va, vc, ev⟩ := ((unhide E4).1.row at9 v9 tt hv9 htt).form
          subst ev
          have HV := hide (And.intro hv9 htt)
          have c9 : wr.cell? ⟨G, at9, none⟩ = some (.slice va tt.length vc) := by rw [cell_of_row _ _ _ _ _ _ (unhide E4).1.g, List.getElem?_toArray]; exact hv9
          clear hv9 htt
          by_cases htn : tt.length = 0
          · have d0 : ((tt.length : Int) == 0) = true := by rw [htn]; rfl
            have HTN := hide htn
            clear htn
            obtain ⟨k2, hk2⟩ : ∃ k2, i % links = k2 := ⟨_, rfl⟩
            have hat_k2 : k2 < links := by rw [← hk2]; exact Nat.mod_lt _ (by omega)
            have hkI : (k2 : Int) < (links : Int) := by omega
            have hrem : Int.tmod (i : Int) (links : Int) = (k2 : Int) := by rw [← hk2]; rfl
            have hlz : ((links : Int) == 0) = false := beq_eq_false_iff_ne.2 (by omega)
            have hlz2 : ¬ ((links : Int) = 0) := by omega
            have HK2 := hide hk2
            clear hk2
            obtain ⟨t2, ht2⟩ : ∃ t2, Rm'[k2]? = some t2 := ⟨_, List.getElem?_eq_getElem (by rw [(unhide E4).2.2.2.2.1]; exact hat_k2)⟩
            obtain ⟨v2, hv2⟩ : ∃ v2, vs'[k2]? = some v2 := ⟨_, List.getElem?_eq_getElem (by rw [(unhide E4).1.len, (unhide E4).2.2.2.2.1]; exact hat_k2)⟩
            obtain ⟨vb, vd, ev⟩ := ((unhide E4).1.row k2 v2 t2 hv2 ht2).form
            subst ev
            have HV2 := hide (And.intro hv2 ht2)
            have c92 : wr.cell? ⟨G, k2, none⟩ = some (.slice vb t2.length vd) := by rw [cell_of_row _ _ _ _ _ _ (unhide E4).1.g, List.getElem?_toArray]; exact hv2
            clear hv2 ht2
            by_cases htn : t2.length = 0
            · have d2 : ((t2.length : Int) == 0) = true := by rw [htn]; rfl
              have HTN2 := hide htn
              clear htn
              go_wp2_with fail
              go_roundw
              case rel =>
                obtain ⟨hq, hh, ha, hwt, hn, htot⟩ := unhide E4
                refine ⟨i + 1, vs', Rm', L, P, a1, a2, c1, c2, HS, GI, by omega, by go_num, hq, hh, ha, hwt.vain (by rw [hn]; omega) (fun t ht => ?_), hn, htot⟩
                rw [hn, unhide HK2, (unhide HV2).2] at ht
                cases ht
                exact List.eq_nil_of_length_eq_zero (unhide HTN2)
              case measure => simp [intOf]; omega
            · have d2 : ((t2.length : Int) == 0) = false := beq_eq_false_iff_ne.2 (by omega)
              go_upto_region 37 with fail
              obtain ⟨f, tl, etl⟩ : ∃ f tl, t2 = f :: tl := List.exists_cons_of_ne_nil (fun e => htn (by rw [e]; rfl))
              subst etl
              obtain ⟨g1, o1, cp, ev, hcp, hg1, _⟩ := ((unhide E4).1.row k2 _ _ (unhide HV2).1 (unhide HV2).2).head
              injection ev with e1 e2 e3
              subst e1
              subst e3
              clear e2 hg1 htn
              obtain ⟨hh1, GI2, hG2, hHl2, hAl2⟩ := (unhide E4).2.1.hear (blk_cuts s ts) (cuts_ok (by omega) 0 (by omega) (by omega)) (unhide HV2).2
              obtain ⟨fq, bx, bf, tx⟩ := f
              obtain ⟨ob, hob⟩ : ∃ ob, okB L P k2 ⟨fq, bx, bf, tx⟩ = ob := ⟨_, rfl⟩
              have hcd : ob.cd = 0 := by rw [← hob]; rfl
              rw [hob] at hh1 hG2 hHl2 hAl2
              clear hob
              obtain ⟨L', P', G1, nl, cd⟩ := ob
              dsimp only at hh1 hG2 hHl2 hAl2 hcd
              subst hcd
              have hL8 : L.length ≤ 8 := by rw [(unhide E4).2.1.len, (unhide E4).2.2.2.2.1]; omega
              have hP40 : P.length ≤ 40 := (bdOk_ok (unhide E4).2.1.ok).2.1
              have CH := hide fun z h1 h2 => hear10 (a1 := a1) (a2 := a2) (c1 := c1) (c2 := c2) z hh1 hL8 hP40 h1 h2
              unfold fgV at CH
              dsimp only at CH
              have hGb := nodup_le _ _ hHl2.nd (fun i hi => (hHl2.g i hi).1)
              rw [List.length_append, cuts_len, (unhide HT).1] at hGb
              have HG2 := hide (And.intro hG2 (And.intro hHl2 hAl2))
              have hGb1 : Hid (G1.length ≤ 1048576) := hide (by rw [hG2, List.length_map]; omega)
              have hGb2 : Hid ((GI.map fun j => catP (((cuts s 0 ts)[j]?).getD [])).length ≤ 1048576) := hide (by rw [List.length_map]; omega)
              have HCP := hide hcp
              clear hh1 hG2 hHl2 hAl2 hL8 hP40 hGb hcp
              obtain ⟨Gt, hGt⟩ : ∃ Gt, (GI.map fun j => catP (((cuts s 0 ts)[j]?).getD [])) = Gt := ⟨_, rfl⟩
              have E41 := hide (unhide E4).1
              have HGt := hide hGt
              rw [hGt] at E41 hGb2
              clear hGt
              obtain ⟨ua, uc, eu⟩ := own_form (unhide E41).o
              subst eu
              have SY : Hid (∀ y9, Lq w y9 G BB vs' Rm' L P a1 a2 c1 c2 (.slice ua Gt.length uc) Gt (.slice tva ts.length tvc) ts → (y9.cell? ⟨BB, 0, none⟩ = some (.slice a1 L.length c1) ∧ y9.cell? ⟨BB, 1, none⟩ = some (.slice a2 P.length c2) ∧ y9.cell? ⟨G, k2, none⟩ = some (.slice (some ⟨g1, o1, none⟩) (tl.length + 1) vd) ∧ y9.cell? ⟨g1, o1, none⟩ = some (.int .i64 fq) ∧ y9.cell? ⟨g1, o1 + 1, none⟩ = some (.bool bx) ∧ y9.cell? ⟨g1, o1 + 2, none⟩ = some (.bool bf) ∧ y9.cell? ⟨g1, o1 + 3, none⟩ = some (.string tx))) := hide fun y9 hz => by
                obtain ⟨m1, m2⟩ := row2b hz.b
                obtain ⟨g', o', p', e', _, _, k0, k1, k2, k3⟩ := (hz.row k2 _ _ (unhide HV2).1 (unhide HV2).2).head
                injection e' with e1' _ e3'
                cases e1'
                exact ⟨m1, m2, by rw [cell_of_row _ _ _ _ _ _ hz.g, List.getElem?_toArray]; exact (unhide HV2).1, k0, k1, k2, k3⟩
              go_cut [22] (fun v wx => ∃ M bs b1 b2 ga d1 d2 gc, v = .pointer (some ⟨M, 0, none⟩) ∧ Lh w wx G BB vs' Rm' L P a1 a2 c1 c2 (.slice ua Gt.length uc) Gt (.slice tva ts.length tvc) ts M bs b1 b2 ga d1 d2 gc L' P' G1 nl)
              case first =>
                have E5 := hide ((unhide E41).step ((Below.refl _ _).drew))
                refine wp_region_held_drew (S := fun y9 => y9.cell? ⟨BB, 0, none⟩ = some (.slice a1 L.length c1) ∧ y9.cell? ⟨BB, 1, none⟩ = some (.slice a2 P.length c2) ∧ y9.cell? ⟨G, k2, none⟩ = some (.slice (some ⟨g1, o1, none⟩) (tl.length + 1) vd) ∧ y9.cell? ⟨g1, o1, none⟩ = some (.int .i64 fq) ∧ y9.cell? ⟨g1, o1 + 1, none⟩ = some (.bool bx) ∧ y9.cell? ⟨g1, o1 + 2, none⟩ = some (.bool bf) ∧ y9.cell? ⟨g1, o1 + 3, none⟩ = some (.string tx)) (by kernel_rfl) (unhide SY _ (unhide E5)) (fun hHeld => ?_)
                generalize wr.drew = yy at E5 hHeld ⊢
                refine wpAnyH_take (i := 0) (v := ?vhb1_0) rfl (by kernel_rfl) (by kernel_rfl) (by kernel_rfl) (fun _ _ _ h => h) (Or.inl ⟨by rfl, ?hyhb1_0⟩) (by assumption) ?_
                case hyhb1_0 =>
                  intro w hSw
                  try dsimp only at hSw
                  go_simp
                  try with_reducible rfl
                try simp only [Act.put, List.setIfInBounds_toArray, List.set_cons_zero, List.set_cons_succ, List.getElem_toArray, List.getElem_cons_zero]
                refine wpAnyH_take (i := 1) (v := ?vhb2_1) rfl (by kernel_rfl) (by kernel_rfl) (by kernel_rfl) (fun _ _ _ h => h) (Or.inl ⟨by rfl, ?hyhb2_1⟩) (by assumption) ?_
                case hyhb2_1 =>
                  intro w hSw
                  try dsimp only at hSw
                  go_simp
                  try with_reducible rfl
                try simp only [Act.put, List.setIfInBounds_toArray, List.set_cons_zero, List.set_cons_succ, List.getElem_toArray, List.getElem_cons_zero, List.getElem_cons_succ]
                refine wpAnyH_take (i := 2) (v := ?vhb3_2) rfl (by kernel_rfl) (by kernel_rfl) (by kernel_rfl) (fun _ _ _ h => h) (Or.inl ⟨by rfl, ?hyhb3_2⟩) (by assumption) ?_
                case hyhb3_2 =>
                  intro w hSw
                  try dsimp only at hSw
                  go_simp
                  try with_reducible rfl
                try simp only [Act.put, List.setIfInBounds_toArray, List.set_cons_zero, List.set_cons_succ, List.getElem_toArray, List.getElem_cons_zero, List.getElem_cons_succ]
                refine wpAnyH_take (i := 3) (v := ?vhb4_3) rfl (by kernel_rfl) (by kernel_rfl) (by kernel_rfl) (fun _ _ _ h => h) (Or.inl ⟨by rfl, ?hyhb4_3⟩) (by assumption) ?_
                case hyhb4_3 =>
                  intro w hSw
                  try dsimp only at hSw
                  go_simp
                  try with_reducible rfl
                try simp only [Act.put, List.setIfInBounds_toArray, List.set_cons_zero, List.set_cons_succ, List.getElem_toArray, List.getElem_cons_zero, List.getElem_cons_succ]
                refine wpAnyH_take (i := 4) (v := ?vhb5_4) rfl (by kernel_rfl) (by kernel_rfl) (by kernel_rfl) (fun _ _ _ h => h) (Or.inl ⟨by rfl, ?hyhb5_4⟩) (by assumption) ?_
                case hyhb5_4 =>
                  intro w hSw
                  try dsimp only at hSw
                  go_simp
                  try with_reducible rfl
                try simp only [Act.put, List.setIfInBounds_toArray, List.set_cons_zero, List.set_cons_succ, List.getElem_toArray, List.getElem_cons_zero, List.getElem_cons_succ]
                refine wpAnyH_take (i := 5) (v := ?vhb6_5) rfl (by kernel_rfl) (by kernel_rfl) (by kernel_rfl) (fun _ _ _ h => h) (Or.inl ⟨by rfl, ?hyhb6_5⟩) (by assumption) ?_
                case hyhb6_5 =>
                  intro w hSw
                  try dsimp only at hSw
                  go_simp
                  try with_reducible rfl
                try simp only [Act.put, List.setIfInBounds_toArray, List.set_cons_zero, List.set_cons_succ, List.getElem_toArray, List.getElem_cons_zero, List.getElem_cons_succ]
                refine wpAnyH_take (i := 6) (v := ?vhb7_6) rfl (by kernel_rfl) (by kernel_rfl) (by kernel_rfl) (fun _ _ _ h => h) (Or.inl ⟨by rfl, ?hyhb7_6⟩) (by assumption) ?_
                case hyhb7_6 =>
                  intro w hSw
                  try dsimp only at hSw
                  go_simp
                  try with_reducible rfl
                try simp only [Act.put, List.setIfInBounds_toArray, List.set_cons_zero, List.set_cons_succ, List.getElem_toArray, List.getElem_cons_zero, List.getElem_cons_succ]
                refine wpAnyH_take (i := 7) (v := ?vhb8_7) rfl (by kernel_rfl) (by kernel_rfl) (by kernel_rfl) (fun _ _ _ h => h) (Or.inl ⟨by rfl, ?hyhb8_7⟩) (by assumption) ?_
                case hyhb8_7 =>
                  intro w hSw
                  try dsimp only at hSw
                  go_simp
                  try with_reducible rfl
                try simp only [Act.put, List.setIfInBounds_toArray, List.set_cons_zero, List.set_cons_succ, List.getElem_toArray, List.getElem_cons_zero, List.getElem_cons_succ]
                refine wpAnyH_ready (rs := [8, 9]) (by kernel_rfl) (by simp) ?_
                refine AllReadyH.cons rfl (fun K hK => ?_) (AllReadyH.cons rfl (fun K hK => ?_) (AllReadyH.nil))
                · go_simp
                  refine (unhide CH _ (unhide E5).l (unhide E5).p).mono ?_
                  rintro e z31 ⟨b1, b2, d1, d2, ga, gc, rfl, hl31, hr31, ho31, hb31⟩
                  have E31 := hide ((unhide E5).step hb31)
                  have A31 := hide (And.intro hl31 (And.intro hr31 ho31))
                  clear hb31 hl31 hr31 ho31
                  go_wp2_with fail
                  refine hK.out _ _ (unhide SY _ (unhide E31)) (fun _ => ?_)
                  clear hK K
                  try simp only [Act.put, List.setIfInBounds_toArray, List.set_cons_zero, List.set_cons_succ, List.getElem_toArray, List.getElem_cons_zero, List.getElem_cons_succ]
                  refine wpAnyH_ready (rs := [9]) (by kernel_rfl) (by simp) ?_
                  refine AllReadyH.cons rfl (fun K hK => ?_) (AllReadyH.nil)
                  have hb32 : Below z31.heap.size z31 (z31.alloc (.cells #[.slice none 0 0, .slice none 0 0, .slice none 0 0, .int .i64 0, .int .i64 0] 37)) := (Below.refl _ _).alloc (Nat.le_refl _) _
                  have E32 := hide ((unhide E31).step hb32)
                  have M32 := hide (heap_alloc_new z31 (.cells #[.slice none 0 0, .slice none 0 0, .slice none 0 0, .int .i64 0, .int .i64 0] 37))
                  have L32 := hide ((unhide E31).bw.size)
                  have A32 := hide (And.intro ((unhide A31).1.below hb32 rfl) (And.intro ((unhide A31).2.1.below hb32 rfl) (own_lo8 (unhide A31).2.2 hb32)))
                  clear hb32
                  go_simp
                  refine hK.out _ _ (unhide SY _ (unhide E32)) (fun _ => ?_)
                  clear hK K
                  try simp only [Act.put, List.setIfInBounds_toArray, List.set_cons_zero, List.set_cons_succ, List.getElem_toArray, List.getElem_cons_zero, List.getElem_cons_succ]
                  generalize z31.heap.size = N32 at A32 M32 L32 ⊢
                  generalize (z31.alloc (.cells #[.slice none 0 0, .slice none 0 0, .slice none 0 0, .int .i64 0, .int .i64 0] 37)) = q32 at E32 A32 M32 ⊢
                  have hS32 := unhide SY _ (unhide E32)
                  refine wpAnyH_ready (rs := [10]) (by kernel_rfl) (by simp) ?_
                  refine AllReadyH.cons rfl (fun K hK => ?_) (AllReadyH.nil)
                  obtain ⟨r0, r1, r2, r3, r4⟩ := row5b (unhide M32)
                  have f0 := frz (unhide M32) 0
                  have f1 := frz (unhide M32) 1
                  have f2 := frz (unhide M32) 2
                  have f3 := frz (unhide M32) 3
                  have f4 := frz (unhide M32) 4
                  have ZF := hide (Lh.put (n := nl) (unhide E32) (unhide M32) (unhide L32) (unhide A32).1 (unhide A32).2.1 (unhide A32).2.2)
                  go_simp
                  clear r0 r1 r2 r3 r4 f0 f1 f2 f3 f4
                  refine hK.out _ _ (unhide SY _ (unhide ZF).e) (fun _ => ?_)
                  clear hK K
                  try simp only [Act.put, List.setIfInBounds_toArray, List.set_cons_zero, List.set_cons_succ, List.getElem_toArray, List.getElem_cons_zero, List.getElem_cons_succ]
                  refine wpAnyH_done (by kernel_rfl) ?_ _
                  go_wp2_with fail
                  go_meet
                  exact ⟨_, _, b1, b2, ga, d1, d2, gc, rfl, unhide ZF⟩
                · have hb31 : Below yy.heap.size yy (yy.alloc (.cells #[.slice none 0 0, .slice none 0 0, .slice none 0 0, .int .i64 0, .int .i64 0] 37)) := (Below.refl _ _).alloc (Nat.le_refl _) _
                  have E31 := hide ((unhide E5).step hb31)
                  have M31 := hide (heap_alloc_new yy (.cells #[.slice none 0 0, .slice none 0 0, .slice none 0 0, .int .i64 0, .int .i64 0] 37))
                  have L31 := hide ((unhide E5).bw.size)
                  clear hb31
                  go_simp
                  refine hK.out _ _ (unhide SY _ (unhide E31)) (fun _ => ?_)
                  clear hK K
                  try simp only [Act.put, List.setIfInBounds_toArray, List.set_cons_zero, List.set_cons_succ, List.getElem_toArray, List.getElem_cons_zero, List.getElem_cons_succ]
                  generalize yy.heap.size = N31 at M31 L31 ⊢
                  generalize (yy.alloc (.cells #[.slice none 0 0, .slice none 0 0, .slice none 0 0, .int .i64 0, .int .i64 0] 37)) = q31 at E31 M31 ⊢
                  have hS31 := unhide SY _ (unhide E31)
                  refine wpAnyH_ready (rs := [8]) (by kernel_rfl) (by simp) ?_
                  refine AllReadyH.cons rfl (fun K hK => ?_) (AllReadyH.nil)
                  go_simp
                  refine (unhide CH _ (unhide E31).l (unhide E31).p).mono ?_
                  rintro e z32 ⟨b1, b2, d1, d2, ga, gc, rfl, hl32, hr32, ho32, hb32⟩
                  have E32 := hide ((unhide E31).step hb32)
                  have A32 := hide (And.intro hl32 (And.intro hr32 ho32))
                  have M32 := hide ((hb32.block _ (Array.getElem?_eq_some_iff.1 (unhide M31)).1).trans (unhide M31))
                  clear hb32 hl32 hr32 ho32
                  go_wp2_with fail
                  refine hK.out _ _ (unhide SY _ (unhide E32)) (fun _ => ?_)
                  clear hK K
                  try simp only [Act.put, List.setIfInBounds_toArray, List.set_cons_zero, List.set_cons_succ, List.getElem_toArray, List.getElem_cons_zero, List.getElem_cons_succ]
                  refine wpAnyH_ready (rs := [10]) (by kernel_rfl) (by simp) ?_
                  refine AllReadyH.cons rfl (fun K hK => ?_) (AllReadyH.nil)
                  obtain ⟨r0, r1, r2, r3, r4⟩ := row5b (unhide M32)
                  have f0 := frz (unhide M32) 0
                  have f1 := frz (unhide M32) 1
                  have f2 := frz (unhide M32) 2
                  have f3 := frz (unhide M32) 3
                  have f4 := frz (unhide M32) 4
                  have ZF := hide (Lh.put (n := nl) (unhide E32) (unhide M32) (unhide L31) (unhide A32).1 (unhide A32).2.1 (unhide A32).2.2)
                  go_simp
                  clear r0 r1 r2 r3 r4 f0 f1 f2 f3 f4
                  refine hK.out _ _ (unhide SY _ (unhide ZF).e) (fun _ => ?_)
                  clear hK K
                  try simp only [Act.put, List.setIfInBounds_toArray, List.set_cons_zero, List.set_cons_succ, List.getElem_toArray, List.getElem_cons_zero, List.getElem_cons_succ]
                  refine wpAnyH_done (by kernel_rfl) ?_ _
                  go_wp2_with fail
                  go_meet
                  exact ⟨_, _, b1, b2, ga, d1, d2, gc, rfl, unhide ZF⟩
              case rest =>
                obtain ⟨M, bs, b1, b2, ga, d1, d2, gc, hv, hF⟩ := hcut
                subst hv
                have E6 := hide hF
                clear hF E41
                obtain ⟨r0, r1, r2, r3, r4⟩ := row5b (unhide E6).m
                obtain ⟨m0, m1⟩ := row2b (unhide E6).e.b
                have f0 := frz (unhide E6).e.b 0
                have f1 := frz (unhide E6).e.b 1
                go_upto_region 41 with fail
                refine gen_world (fun q => Lq w q G BB vs' Rm' L' P' b1 b2 d1 d2 (.slice ua Gt.length uc) Gt (.slice tva ts.length tvc) ts ∧ q.heap[M]? = some (.cells #[.slice b1 L'.length d1, .slice b2 P'.length d2, .slice ga G1.length gc, .int .i64 (nl : Int), .int .i64 0] 37) ∧ q.ownsRow bs 9 1 (.slice ga G1.length gc) G1.length (scells G1)) (unhide E6).next ?_
                clear r0 r1 r2 r3 r4 m0 m1 f0 f1 E6
                intro q5 hq5
                have r2 := (row5b hq5.2.1).2.2.1
                have E7 := hide hq5
                clear hq5 CH SY
                have hsz5 := (unhide E7).1.bw.size
                go_upto_region 42 with (first
                  | (at_builtin; refine append_ts2 rfl _ _ rfl w.heap.size bs (.slice ua Gt.length uc) (.slice ga G1.length gc) Gt G1 rfl rfl (unhide E7).1.o (unhide E7).2.2 (unhide hGb2) (unhide hGb1) hsz5 ?_; rintro v' w6 ho6 hg6 hn6; have E8 := hide ((unhide E7).1.app hg6 ho6 hn6); clear ho6 hg6 hn6))
                clear r2 hsz5 E7 hGb1 hGb2
                obtain ⟨bq, hbq, hsl⟩ := slice_tail g1 o1 tl.length vd
                have c9 : w6.cell? ⟨G, k2, none⟩ = some (.slice (some ⟨g1, o1, none⟩) (tl.length + 1) vd) := by rw [cell_of_row _ _ _ _ _ _ (unhide E8).g, List.getElem?_toArray]; exact (unhide HV2).1
                have fz9 := frz (unhide E8).g k2
                have hd1 : (1 : Int) ≤ (tl.length : Int) + 1 := by omega
                have HBQ := hide hbq
                clear hbq
                go_wp2_with fail
                go_roundw
                case rel =>
                  obtain ⟨_, hh, ha, hwt, hn, htot⟩ := unhide E4
                  obtain ⟨hG2, hHl2, hAl2⟩ := unhide HG2
                  have htt := totL_set Rm' k2 _ tl (unhide HV2).2
                  rw [List.length_cons] at htt
                  refine ⟨i + 1, vs'.set k2 (.slice (some bq) tl.length (vd - 1)), Rm'.set k2 tl, L', P', b1, b2, d1, d2, ⟨fq, bx, bf, tx⟩ :: HS, GI ++ GI2, by omega, by go_num, ?_, hHl2, fun h0 => hAl2 (fun x hx => by have := cuts_rng s ts 0 x hx; omega) (ha h0), hwt.hear (unhide HV2).2 htot (by rw [hn]; omega), by rw [List.length_set]; exact hn, by omega⟩
                  rw [List.map_append, unhide HGt, ← hG2]
                  refine (unhide E8).cut (by rw [(unhide E8).len, hn]; exact hat_k2) (HoldsV.tail ((unhide E8).row k2 _ _ (unhide HV2).1 (unhide HV2).2) bq (fun hne => unhide HBQ ?_))
                  have := unhide HCP
                  have : tl.length ≠ 0 := fun e => hne (List.eq_nil_of_length_eq_zero e)
                  omega
                case measure => simp [intOf]; omega
          · have d0 : ((tt.length : Int) == 0) = false := beq_eq_false_iff_ne.2 (by omega)
            go_upto_region 37 with fail
            obtain ⟨f, tl, etl⟩ : ∃ f tl, tt = f :: tl := List.exists_cons_of_ne_nil (fun e => htn (by rw [e]; rfl))
            subst etl
            obtain ⟨g1, o1, cp, ev, hcp, hg1, _⟩ := ((unhide E4).1.row at9 _ _ (unhide HV).1 (unhide HV).2).head
            injection ev with e1 e2 e3
            subst e1
            subst e3
            clear e2 hg1 htn
            obtain ⟨hh1, GI2, hG2, hHl2, hAl2⟩ := (unhide E4).2.1.hear (blk_cuts s ts) (cuts_ok (by omega) 0 (by omega) (by omega)) (unhide HV).2
            obtain ⟨fq, bx, bf, tx⟩ := f
            obtain ⟨ob, hob⟩ : ∃ ob, okB L P at9 ⟨fq, bx, bf, tx⟩ = ob := ⟨_, rfl⟩
            have hcd : ob.cd = 0 := by rw [← hob]; rfl
            rw [hob] at hh1 hG2 hHl2 hAl2
            clear hob
            obtain ⟨L', P', G1, nl, cd⟩ := ob
            dsimp only at hh1 hG2 hHl2 hAl2 hcd
            subst hcd
            have hL8 : L.length ≤ 8 := by rw [(unhide E4).2.1.len, (unhide E4).2.2.2.2.1]; omega
            have hP40 : P.length ≤ 40 := (bdOk_ok (unhide E4).2.1.ok).2.1
            have CH := hide fun z h1 h2 => hear10 (a1 := a1) (a2 := a2) (c1 := c1) (c2 := c2) z hh1 hL8 hP40 h1 h2
            unfold fgV at CH
            dsimp only at CH
            have hGb := nodup_le _ _ hHl2.nd (fun i hi => (hHl2.g i hi).1)
            rw [List.length_append, cuts_len, (unhide HT).1] at hGb
            have HG2 := hide (And.intro hG2 (And.intro hHl2 hAl2))
            have hGb1 : Hid (G1.length ≤ 1048576) := hide (by rw [hG2, List.length_map]; omega)
            have hGb2 : Hid ((GI.map fun j => catP (((cuts s 0 ts)[j]?).getD [])).length ≤ 1048576) := hide (by rw [List.length_map]; omega)
            have HCP := hide hcp
            clear hh1 hG2 hHl2 hAl2 hL8 hP40 hGb hcp
            obtain ⟨Gt, hGt⟩ : ∃ Gt, (GI.map fun j => catP (((cuts s 0 ts)[j]?).getD [])) = Gt := ⟨_, rfl⟩
            have E41 := hide (unhide E4).1
            have HGt := hide hGt
            rw [hGt] at E41 hGb2
            clear hGt
            obtain ⟨ua, uc, eu⟩ := own_form (unhide E41).o
            subst eu
            have SY : Hid (∀ y9, Lq w y9 G BB vs' Rm' L P a1 a2 c1 c2 (.slice ua Gt.length uc) Gt (.slice tva ts.length tvc) ts → (y9.cell? ⟨BB, 0, none⟩ = some (.slice a1 L.length c1) ∧ y9.cell? ⟨BB, 1, none⟩ = some (.slice a2 P.length c2) ∧ y9.cell? ⟨G, at9, none⟩ = some (.slice (some ⟨g1, o1, none⟩) (tl.length + 1) vc) ∧ y9.cell? ⟨g1, o1, none⟩ = some (.int .i64 fq) ∧ y9.cell? ⟨g1, o1 + 1, none⟩ = some (.bool bx) ∧ y9.cell? ⟨g1, o1 + 2, none⟩ = some (.bool bf) ∧ y9.cell? ⟨g1, o1 + 3, none⟩ = some (.string tx))) := hide fun y9 hz => by
              obtain ⟨m1, m2⟩ := row2b hz.b
              obtain ⟨g', o', p', e', _, _, k0, k1, k2, k3⟩ := (hz.row at9 _ _ (unhide HV).1 (unhide HV).2).head
              injection e' with e1' _ e3'
              cases e1'
              exact ⟨m1, m2, by rw [cell_of_row _ _ _ _ _ _ hz.g, List.getElem?_toArray]; exact (unhide HV).1, k0, k1, k2, k3⟩
            go_cut [22] (fun v wx => ∃ M bs b1 b2 ga d1 d2 gc, v = .pointer (some ⟨M, 0, none⟩) ∧ Lh w wx G BB vs' Rm' L P a1 a2 c1 c2 (.slice ua Gt.length uc) Gt (.slice tva ts.length tvc) ts M bs b1 b2 ga d1 d2 gc L' P' G1 nl)
            case first =>
              have E5 := hide ((unhide E41).step ((Below.refl _ _).drew))
              refine wp_region_held_drew (S := fun y9 => y9.cell? ⟨BB, 0, none⟩ = some (.slice a1 L.length c1) ∧ y9.cell? ⟨BB, 1, none⟩ = some (.slice a2 P.length c2) ∧ y9.cell? ⟨G, at9, none⟩ = some (.slice (some ⟨g1, o1, none⟩) (tl.length + 1) vc) ∧ y9.cell? ⟨g1, o1, none⟩ = some (.int .i64 fq) ∧ y9.cell? ⟨g1, o1 + 1, none⟩ = some (.bool bx) ∧ y9.cell? ⟨g1, o1 + 2, none⟩ = some (.bool bf) ∧ y9.cell? ⟨g1, o1 + 3, none⟩ = some (.string tx)) (by kernel_rfl) (unhide SY _ (unhide E5)) (fun hHeld => ?_)
              generalize wr.drew = yy at E5 hHeld ⊢
              refine wpAnyH_take (i := 0) (v := ?vha1_0) rfl (by kernel_rfl) (by kernel_rfl) (by kernel_rfl) (fun _ _ _ h => h) (Or.inl ⟨by rfl, ?hyha1_0⟩) (by assumption) ?_
              case hyha1_0 =>
                intro w hSw
                try dsimp only at hSw
                go_simp
                try with_reducible rfl
              try simp only [Act.put, List.setIfInBounds_toArray, List.set_cons_zero, List.set_cons_succ, List.getElem_toArray, List.getElem_cons_zero]
              refine wpAnyH_take (i := 1) (v := ?vha2_1) rfl (by kernel_rfl) (by kernel_rfl) (by kernel_rfl) (fun _ _ _ h => h) (Or.inl ⟨by rfl, ?hyha2_1⟩) (by assumption) ?_
              case hyha2_1 =>
                intro w hSw
                try dsimp only at hSw
                go_simp
                try with_reducible rfl
              try simp only [Act.put, List.setIfInBounds_toArray, List.set_cons_zero, List.set_cons_succ, List.getElem_toArray, List.getElem_cons_zero, List.getElem_cons_succ]
              refine wpAnyH_take (i := 2) (v := ?vha3_2) rfl (by kernel_rfl) (by kernel_rfl) (by kernel_rfl) (fun _ _ _ h => h) (Or.inl ⟨by rfl, ?hyha3_2⟩) (by assumption) ?_
              case hyha3_2 =>
                intro w hSw
                try dsimp only at hSw
                go_simp
                try with_reducible rfl
              try simp only [Act.put, List.setIfInBounds_toArray, List.set_cons_zero, List.set_cons_succ, List.getElem_toArray, List.getElem_cons_zero, List.getElem_cons_succ]
              refine wpAnyH_take (i := 3) (v := ?vha4_3) rfl (by kernel_rfl) (by kernel_rfl) (by kernel_rfl) (fun _ _ _ h => h) (Or.inl ⟨by rfl, ?hyha4_3⟩) (by assumption) ?_
              case hyha4_3 =>
                intro w hSw
                try dsimp only at hSw
                go_simp
                try with_reducible rfl
              try simp only [Act.put, List.setIfInBounds_toArray, List.set_cons_zero, List.set_cons_succ, List.getElem_toArray, List.getElem_cons_zero, List.getElem_cons_succ]
              refine wpAnyH_take (i := 4) (v := ?vha5_4) rfl (by kernel_rfl) (by kernel_rfl) (by kernel_rfl) (fun _ _ _ h => h) (Or.inl ⟨by rfl, ?hyha5_4⟩) (by assumption) ?_
              case hyha5_4 =>
                intro w hSw
                try dsimp only at hSw
                go_simp
                try with_reducible rfl
              try simp only [Act.put, List.setIfInBounds_toArray, List.set_cons_zero, List.set_cons_succ, List.getElem_toArray, List.getElem_cons_zero, List.getElem_cons_succ]
              refine wpAnyH_take (i := 5) (v := ?vha6_5) rfl (by kernel_rfl) (by kernel_rfl) (by kernel_rfl) (fun _ _ _ h => h) (Or.inl ⟨by rfl, ?hyha6_5⟩) (by assumption) ?_
              case hyha6_5 =>
                intro w hSw
                try dsimp only at hSw
                go_simp
                try with_reducible rfl
              try simp only [Act.put, List.setIfInBounds_toArray, List.set_cons_zero, List.set_cons_succ, List.getElem_toArray, List.getElem_cons_zero, List.getElem_cons_succ]
              refine wpAnyH_take (i := 6) (v := ?vha7_6) rfl (by kernel_rfl) (by kernel_rfl) (by kernel_rfl) (fun _ _ _ h => h) (Or.inl ⟨by rfl, ?hyha7_6⟩) (by assumption) ?_
              case hyha7_6 =>
                intro w hSw
                try dsimp only at hSw
                go_simp
                try with_reducible rfl
              try simp only [Act.put, List.setIfInBounds_toArray, List.set_cons_zero, List.set_cons_succ, List.getElem_toArray, List.getElem_cons_zero, List.getElem_cons_succ]
              refine wpAnyH_take (i := 7) (v := ?vha8_7) rfl (by kernel_rfl) (by kernel_rfl) (by kernel_rfl) (fun _ _ _ h => h) (Or.inl ⟨by rfl, ?hyha8_7⟩) (by assumption) ?_
              case hyha8_7 =>
                intro w hSw
                try dsimp only at hSw
                go_simp
                try with_reducible rfl
              try simp only [Act.put, List.setIfInBounds_toArray, List.set_cons_zero, List.set_cons_succ, List.getElem_toArray, List.getElem_cons_zero, List.getElem_cons_succ]
              refine wpAnyH_ready (rs := [8, 9]) (by kernel_rfl) (by simp) ?_
              refine AllReadyH.cons rfl (fun K hK => ?_) (AllReadyH.cons rfl (fun K hK => ?_) (AllReadyH.nil))
              · go_simp
                refine (unhide CH _ (unhide E5).l (unhide E5).p).mono ?_
                rintro e z31 ⟨b1, b2, d1, d2, ga, gc, rfl, hl31, hr31, ho31, hb31⟩
                have E31 := hide ((unhide E5).step hb31)
                have A31 := hide (And.intro hl31 (And.intro hr31 ho31))
                clear hb31 hl31 hr31 ho31
                go_wp2_with fail
                refine hK.out _ _ (unhide SY _ (unhide E31)) (fun _ => ?_)
                clear hK K
                try simp only [Act.put, List.setIfInBounds_toArray, List.set_cons_zero, List.set_cons_succ, List.getElem_toArray, List.getElem_cons_zero, List.getElem_cons_succ]
                refine wpAnyH_ready (rs := [9]) (by kernel_rfl) (by simp) ?_
                refine AllReadyH.cons rfl (fun K hK => ?_) (AllReadyH.nil)
                have hb32 : Below z31.heap.size z31 (z31.alloc (.cells #[.slice none 0 0, .slice none 0 0, .slice none 0 0, .int .i64 0, .int .i64 0] 37)) := (Below.refl _ _).alloc (Nat.le_refl _) _
                have E32 := hide ((unhide E31).step hb32)
                have M32 := hide (heap_alloc_new z31 (.cells #[.slice none 0 0, .slice none 0 0, .slice none 0 0, .int .i64 0, .int .i64 0] 37))
                have L32 := hide ((unhide E31).bw.size)
                have A32 := hide (And.intro ((unhide A31).1.below hb32 rfl) (And.intro ((unhide A31).2.1.below hb32 rfl) (own_lo8 (unhide A31).2.2 hb32)))
                clear hb32
                go_simp
                refine hK.out _ _ (unhide SY _ (unhide E32)) (fun _ => ?_)
                clear hK K
                try simp only [Act.put, List.setIfInBounds_toArray, List.set_cons_zero, List.set_cons_succ, List.getElem_toArray, List.getElem_cons_zero, List.getElem_cons_succ]
                generalize z31.heap.size = N32 at A32 M32 L32 ⊢
                generalize (z31.alloc (.cells #[.slice none 0 0, .slice none 0 0, .slice none 0 0, .int .i64 0, .int .i64 0] 37)) = q32 at E32 A32 M32 ⊢
                have hS32 := unhide SY _ (unhide E32)
                refine wpAnyH_ready (rs := [10]) (by kernel_rfl) (by simp) ?_
                refine AllReadyH.cons rfl (fun K hK => ?_) (AllReadyH.nil)
                obtain ⟨r0, r1, r2, r3, r4⟩ := row5b (unhide M32)
                have f0 := frz (unhide M32) 0
                have f1 := frz (unhide M32) 1
                have f2 := frz (unhide M32) 2
                have f3 := frz (unhide M32) 3
                have f4 := frz (unhide M32) 4
                have ZF := hide (Lh.put (n := nl) (unhide E32) (unhide M32) (unhide L32) (unhide A32).1 (unhide A32).2.1 (unhide A32).2.2)
                go_simp
                clear r0 r1 r2 r3 r4 f0 f1 f2 f3 f4
                refine hK.out _ _ (unhide SY _ (unhide ZF).e) (fun _ => ?_)
                clear hK K
                try simp only [Act.put, List.setIfInBounds_toArray, List.set_cons_zero, List.set_cons_succ, List.getElem_toArray, List.getElem_cons_zero, List.getElem_cons_succ]
                refine wpAnyH_done (by kernel_rfl) ?_ _
                go_wp2_with fail
                go_meet
                exact ⟨_, _, b1, b2, ga, d1, d2, gc, rfl, unhide ZF⟩
              · have hb31 : Below yy.heap.size yy (yy.alloc (.cells #[.slice none 0 0, .slice none 0 0, .slice none 0 0, .int .i64 0, .int .i64 0] 37)) := (Below.refl _ _).alloc (Nat.le_refl _) _
                have E31 := hide ((unhide E5).step hb31)
                have M31 := hide (heap_alloc_new yy (.cells #[.slice none 0 0, .slice none 0 0, .slice none 0 0, .int .i64 0, .int .i64 0] 37))
                have L31 := hide ((unhide E5).bw.size)
                clear hb31
                go_simp
                refine hK.out _ _ (unhide SY _ (unhide E31)) (fun _ => ?_)
                clear hK K
                try simp only [Act.put, List.setIfInBounds_toArray, List.set_cons_zero, List.set_cons_succ, List.getElem_toArray, List.getElem_cons_zero, List.getElem_cons_succ]
                generalize yy.heap.size = N31 at M31 L31 ⊢
                generalize (yy.alloc (.cells #[.slice none 0 0, .slice none 0 0, .slice none 0 0, .int .i64 0, .int .i64 0] 37)) = q31 at E31 M31 ⊢
                have hS31 := unhide SY _ (unhide E31)
                refine wpAnyH_ready (rs := [8]) (by kernel_rfl) (by simp) ?_
                refine AllReadyH.cons rfl (fun K hK => ?_) (AllReadyH.nil)
                go_simp
                refine (unhide CH _ (unhide E31).l (unhide E31).p).mono ?_
                rintro e z32 ⟨b1, b2, d1, d2, ga, gc, rfl, hl32, hr32, ho32, hb32⟩
                have E32 := hide ((unhide E31).step hb32)
                have A32 := hide (And.intro hl32 (And.intro hr32 ho32))
                have M32 := hide ((hb32.block _ (Array.getElem?_eq_some_iff.1 (unhide M31)).1).trans (unhide M31))
                clear hb32 hl32 hr32 ho32
                go_wp2_with fail
                refine hK.out _ _ (unhide SY _ (unhide E32)) (fun _ => ?_)
                clear hK K
                try simp only [Act.put, List.setIfInBounds_toArray, List.set_cons_zero, List.set_cons_succ, List.getElem_toArray, List.getElem_cons_zero, List.getElem_cons_succ]
                refine wpAnyH_ready (rs := [10]) (by kernel_rfl) (by simp) ?_
                refine AllReadyH.cons rfl (fun K hK => ?_) (AllReadyH.nil)
                obtain ⟨r0, r1, r2, r3, r4⟩ := row5b (unhide M32)
                have f0 := frz (unhide M32) 0
                have f1 := frz (unhide M32) 1
                have f2 := frz (unhide M32) 2
                have f3 := frz (unhide M32) 3
                have f4 := frz (unhide M32) 4
                have ZF := hide (Lh.put (n := nl) (unhide E32) (unhide M32) (unhide L31) (unhide A32).1 (unhide A32).2.1 (unhide A32).2.2)
                go_simp
                clear r0 r1 r2 r3 r4 f0 f1 f2 f3 f4
                refine hK.out _ _ (unhide SY _ (unhide ZF).e) (fun _ => ?_)
                clear hK K
                try simp only [Act.put, List.setIfInBounds_toArray, List.set_cons_zero, List.set_cons_succ, List.getElem_toArray, List.getElem_cons_zero, List.getElem_cons_succ]
                refine wpAnyH_done (by kernel_rfl) ?_ _
                go_wp2_with fail
                go_meet
                exact ⟨_, _, b1, b2, ga, d1, d2, gc, rfl, unhide ZF⟩
            case rest =>
              obtain ⟨M, bs, b1, b2, ga, d1, d2, gc, hv, hF⟩ := hcut
              subst hv
              have E6 := hide hF
              clear hF E41
              obtain ⟨r0, r1, r2, r3, r4⟩ := row5b (unhide E6).m
              obtain ⟨m0, m1⟩ := row2b (unhide E6).e.b
              have f0 := frz (unhide E6).e.b 0
              have f1 := frz (unhide E6).e.b 1
              go_upto_region 41 with fail
              refine gen_world (fun q => Lq w q G BB vs' Rm' L' P' b1 b2 d1 d2 (.slice ua Gt.length uc) Gt (.slice tva ts.length tvc) ts ∧ q.heap[M]? = some (.cells #[.slice b1 L'.length d1, .slice b2 P'.length d2, .slice ga G1.length gc, .int .i64 (nl : Int), .int .i64 0] 37) ∧ q.ownsRow bs 9 1 (.slice ga G1.length gc) G1.length (scells G1)) (unhide E6).next ?_
              clear r0 r1 r2 r3 r4 m0 m1 f0 f1 E6
              intro q5 hq5
              have r2 := (row5b hq5.2.1).2.2.1
              have E7 := hide hq5
              clear hq5 CH SY
              have hsz5 := (unhide E7).1.bw.size
              go_upto_region 42 with (first
                | (at_builtin; refine append_ts2 rfl _ _ rfl w.heap.size bs (.slice ua Gt.length uc) (.slice ga G1.length gc) Gt G1 rfl rfl (unhide E7).1.o (unhide E7).2.2 (unhide hGb2) (unhide hGb1) hsz5 ?_; rintro v' w6 ho6 hg6 hn6; have E8 := hide ((unhide E7).1.app hg6 ho6 hn6); clear ho6 hg6 hn6))
              clear r2 hsz5 E7 hGb1 hGb2
              obtain ⟨bq, hbq, hsl⟩ := slice_tail g1 o1 tl.length vc
              have c9 : w6.cell? ⟨G, at9, none⟩ = some (.slice (some ⟨g1, o1, none⟩) (tl.length + 1) vc) := by rw [cell_of_row _ _ _ _ _ _ (unhide E8).g, List.getElem?_toArray]; exact (unhide HV).1
              have fz9 := frz (unhide E8).g at9
              have hd1 : (1 : Int) ≤ (tl.length : Int) + 1 := by omega
              have HBQ := hide hbq
              clear hbq
              go_wp2_with fail
              go_roundw
              case rel =>
                obtain ⟨_, hh, ha, hwt, hn, htot⟩ := unhide E4
                obtain ⟨hG2, hHl2, hAl2⟩ := unhide HG2
                have htt := totL_set Rm' at9 _ tl (unhide HV).2
                rw [List.length_cons] at htt
                refine ⟨i + 1, vs'.set at9 (.slice (some bq) tl.length (vc - 1)), Rm'.set at9 tl, L', P', b1, b2, d1, d2, ⟨fq, bx, bf, tx⟩ :: HS, GI ++ GI2, by omega, by go_num, ?_, hHl2, fun h0 => hAl2 (fun x hx => by have := cuts_rng s ts 0 x hx; omega) (ha h0), hwt.hear (unhide HV).2 htot (by rw [hn]; omega), by rw [List.length_set]; exact hn, by omega⟩
                rw [List.map_append, unhide HGt, ← hG2]
                refine (unhide E8).cut (by rw [(unhide E8).len, hn]; exact hat_at9) (HoldsV.tail ((unhide E8).row at9 _ _ (unhide HV).1 (unhide HV).2) bq (fun hne => unhide HBQ ?_))
                have := unhide HCP
                have : tl.length ≠ 0 := fun e => hne (List.eq_nil_of_length_eq_zero e)
                omega
              case measure => simp [intOf]; omega
        · have di3 : ¬ ((i : Int) < 300) := by omega
          have ei : i = 300 := by omega
          subst ei
          have FIN : Hid (lost = 0 → GI.length = 5) := hide fun h0 => by
            obtain ⟨_, hh, ha, hwt, hn, htot⟩ := unhide E4
            have hz := hwt.end (by omega) (by omega) htot
            have hd := (ha h0).done (blk_cuts s ts) (totL_zero _ hz)
            rw [cuts_len, (unhide HT).1] at hd
            exact nodup_len 5 GI hh.nd (fun i hi => by have := (hh.g i hi).1; rw [cuts_len, (unhide HT).1] at this; exact this) hd
          have GOT := hide fun k hk => got_in (s := s) (by omega) (unhide HT).2.1 (by rw [(unhide HT).1]; exact Nat.le_refl _) (unhide E4).2.1.nd (fun j hj => by have := ((unhide E4).2.1.g j hj).1; rw [cuts_len] at this; exact this) k hk
          obtain ⟨ua, uc, eu⟩ := own_form (unhide E4).1.o
          subst eu
          have hcpG := own_cap8 (unhide E4).1.o
          have E5 := hide (And.intro (HoldsT.own (unhide E4).1.o) (And.intro (unhide E4).1.tx (unhide E4).1.bw))
          have HGl : Hid ((GI.map fun j => catP (((cuts s 0 ts)[j]?).getD [])).length = GI.length) := hide (List.length_map _)
          have hG5 : GI.length ≤ 5 := by
            have := nodup_le _ _ (unhide E4).2.1.nd (fun i hi => ((unhide E4).2.1.g i hi).1)
            rw [cuts_len, (unhide HT).1] at this
            exact this
          clear E4 C1 C2
          generalize (GI.map fun j => catP (((cuts s 0 ts)[j]?).getD [])) = Gt at *
          have hts5 : ts.length ≤ 1000 := by rw [(unhide HT).1]; decide
          have hGt5 : Gt.length ≤ 1000 := by rw [unhide HGl]; omega
          go_wp2_with fail
          go_loopw [23] (fun jv wr => ∃ j : Nat, j ≤ Gt.length ∧ jv = .int .i64 j ∧ HoldsT wr (.slice ua Gt.length uc) Gt ∧ HoldsT wr (.slice tva ts.length tvc) ts ∧ Below w.heap.size w wr) (fun jv _ => Gt.length - (intOf jv).toNat)
          case atStart => exact ⟨0, Nat.zero_le _, rfl, unhide E5⟩
          case round =>
            obtain ⟨j, hj, rfl, hT⟩ := hrel
            have E6 := hide hT
            clear hT E5
            by_cases hjl : j < Gt.length
            · have djl : (j : Int) < (Gt.length : Int) := by omega
              obtain ⟨g, eg, hc, htk⟩ := (unhide E6).1.take9 j hjl
              subst eg
              have hs1 : ∀ z : World, (Instr.slice 31 (.slice (some ⟨g, 0, none⟩) Gt.length uc) none (some (.int .i64 (j : Int))) none).run Try.prog z = .ok (.slice (some ⟨g, 0, none⟩) j uc) z := fun z => slice_t z g Gt.length uc j (by omega)
              have CA : Hid (∀ z, HoldsT z (.slice tva ts.length tvc) ts → Calls Try.prog 26 #[.slice tva ts.length tvc, .string Gt[j]] z fun e w' => e = .returned (.bool true) ∧ w' = z) := hide fun z hz => by
                have h := lwInT _ ts Gt[j] z (by omega) hz
                rwa [(unhide GOT j hjl).1] at h
              have CB : Hid (∀ z, HoldsT z (.slice (some ⟨g, 0, none⟩) Gt.length uc) Gt → Calls Try.prog 26 #[.slice (some ⟨g, 0, none⟩) j uc, .string Gt[j]] z fun e w' => e = .returned (.bool false) ∧ w' = z) := hide fun z hz => by
                obtain ⟨g', eg', _, htk'⟩ := hz.take9 j hjl
                have h := lwInT _ (Gt.take j) Gt[j] z (by rw [List.length_take]; omega) htk'
                rw [(unhide GOT j hjl).2] at h
                cases eg'
                exact h
              have SZ : Hid (∀ z, HoldsT z (.slice (some ⟨g, 0, none⟩) Gt.length uc) Gt → z.cell? ⟨g, j, none⟩ = some (.string Gt[j])) := hide fun z hz => by
                obtain ⟨g', eg', hc', _⟩ := hz.take9 j hjl
                cases eg'
                exact hc'
              clear hc htk
              generalize Gt[j] = T at *
              go_upto_region 46 with fail
              have E7 : Hid (HoldsT wr.drew (.slice (some ⟨g, 0, none⟩) Gt.length uc) Gt ∧ HoldsT wr.drew (.slice tva ts.length tvc) ts ∧ Below w.heap.size w wr.drew) := hide ⟨(unhide E6).1.below ((Below.refl _ _).drew) rfl, (unhide E6).2.1.below ((Below.refl _ _).drew) rfl, (unhide E6).2.2.trans (((Below.refl _ _).drew).mono (unhide E6).2.2.size)⟩
              have hS0 := unhide SZ _ (unhide E7).1
              refine wp_region_held_drew (S := fun y9 => y9.cell? ⟨g, j, none⟩ = some (.string T)) (by kernel_rfl) hS0 (fun hHeld => ?_)
              generalize wr.drew = yy at E7 hS0 hHeld ⊢
              refine wpAnyH_take (i := 0) (v := ?vrr1_0) rfl (by kernel_rfl) (by kernel_rfl) (by kernel_rfl) (fun _ _ _ h => h) (Or.inl ⟨by rfl, ?hyrr1_0⟩) (by assumption) ?_
              case hyrr1_0 =>
                intro w hSw
                try dsimp only at hSw
                go_simp
                try with_reducible rfl
              try simp only [Act.put, List.setIfInBounds_toArray, List.set_cons_zero, List.set_cons_succ, List.getElem_toArray, List.getElem_cons_zero]
              refine wpAnyH_take (i := 1) (v := ?vrr2_1) rfl (by kernel_rfl) (by kernel_rfl) (by kernel_rfl) (fun _ _ _ h => h) (Or.inl ⟨by rfl, ?hyrr2_1⟩) (by assumption) ?_
              case hyrr2_1 =>
                intro w hSw
                try dsimp only at hSw
                go_simp
                try with_reducible rfl
              try simp only [Act.put, List.setIfInBounds_toArray, List.set_cons_zero, List.set_cons_succ, List.getElem_toArray, List.getElem_cons_zero, List.getElem_cons_succ]
              refine wpAnyH_take (i := 2) (v := ?vrr3_2) rfl (by kernel_rfl) (by kernel_rfl) (by kernel_rfl) (fun _ _ _ h => h) (Or.inl ⟨by rfl, ?hyrr3_2⟩) (by assumption) ?_
              case hyrr3_2 =>
                intro w hSw
                try dsimp only at hSw
                go_simp
                try with_reducible rfl
              try simp only [Act.put, List.setIfInBounds_toArray, List.set_cons_zero, List.set_cons_succ, List.getElem_toArray, List.getElem_cons_zero, List.getElem_cons_succ]
              refine wpAnyH_take (i := 3) (v := ?vrr4_3) rfl (by kernel_rfl) (by kernel_rfl) (by kernel_rfl) (fun _ _ _ h => h) (Or.inl ⟨by rfl, ?hyrr4_3⟩) (by assumption) ?_
              case hyrr4_3 =>
                intro w hSw
                try dsimp only at hSw
                go_simp
                try with_reducible rfl
              try simp only [Act.put, List.setIfInBounds_toArray, List.set_cons_zero, List.set_cons_succ, List.getElem_toArray, List.getElem_cons_zero, List.getElem_cons_succ]
              refine wpAnyH_take (i := 4) (v := ?vrr5_4) rfl (by kernel_rfl) (by kernel_rfl) (by kernel_rfl) (fun _ _ _ h => h) (Or.inl ⟨by rfl, ?hyrr5_4⟩) (by assumption) ?_
              case hyrr5_4 =>
                intro w hSw
                try dsimp only at hSw
                go_simp
                try with_reducible rfl
              try simp only [Act.put, List.setIfInBounds_toArray, List.set_cons_zero, List.set_cons_succ, List.getElem_toArray, List.getElem_cons_zero, List.getElem_cons_succ]
              refine wpAnyH_ready (rs := [5]) (by kernel_rfl) (by simp) ?_
              refine AllReadyH.cons rfl (fun K hK => ?_) (AllReadyH.nil)
              go_simp
              refine (unhide CA _ (unhide E7).2.1).mono ?_
              rintro e z201 ⟨rfl, hw⟩
              replace hw := hw.symm
              subst hw
              go_wp2_with fail
              refine hK.out _ _ hS0 (fun _ => ?_)
              clear hK K
              try simp only [Act.put, List.setIfInBounds_toArray, List.set_cons_zero, List.set_cons_succ, List.getElem_toArray, List.getElem_cons_zero, List.getElem_cons_succ]
              refine wpAnyH_take (i := 6) (v := ?vrr6_6) rfl (by kernel_rfl) (by kernel_rfl) (by kernel_rfl) (fun _ _ _ h => h) (Or.inl ⟨by rfl, ?hyrr6_6⟩) (by assumption) ?_
              case hyrr6_6 =>
                intro w hSw
                try dsimp only at hSw
                go_simp
                try with_reducible rfl
              try simp only [Act.put, List.setIfInBounds_toArray, List.set_cons_zero, List.set_cons_succ, List.getElem_toArray, List.getElem_cons_zero, List.getElem_cons_succ]
              refine wpAnyH_take (i := 7) (v := ?vrr7_7) rfl (by kernel_rfl) (by kernel_rfl) (by kernel_rfl) (fun _ _ _ h => h) (Or.inl ⟨by rfl, ?hyrr7_7⟩) (by assumption) ?_
              case hyrr7_7 =>
                intro w hSw
                try dsimp only at hSw
                go_simp
                try with_reducible rfl
              try simp only [Act.put, List.setIfInBounds_toArray, List.set_cons_zero, List.set_cons_succ, List.getElem_toArray, List.getElem_cons_zero, List.getElem_cons_succ]
              refine wpAnyH_take (i := 8) (v := ?vrr8_8) rfl (by kernel_rfl) (by kernel_rfl) (by kernel_rfl) (fun _ _ _ h => h) (Or.inl ⟨by rfl, ?hyrr8_8⟩) (by assumption) ?_
              case hyrr8_8 =>
                intro w hSw
                try dsimp only at hSw
                go_simp
                try with_reducible rfl
              try simp only [Act.put, List.setIfInBounds_toArray, List.set_cons_zero, List.set_cons_succ, List.getElem_toArray, List.getElem_cons_zero, List.getElem_cons_succ]
              refine wpAnyH_take (i := 9) (v := ?vrr9_9) rfl (by kernel_rfl) (by kernel_rfl) (by kernel_rfl) (fun _ _ _ h => h) (Or.inl ⟨by rfl, ?hyrr9_9⟩) (by assumption) ?_
              case hyrr9_9 =>
                intro w hSw
                try dsimp only at hSw
                go_simp
                try with_reducible rfl
              try simp only [Act.put, List.setIfInBounds_toArray, List.set_cons_zero, List.set_cons_succ, List.getElem_toArray, List.getElem_cons_zero, List.getElem_cons_succ]
              refine wpAnyH_take (i := 10) (v := ?vrr10_10) rfl (by kernel_rfl) (by kernel_rfl) (by kernel_rfl) (fun _ _ _ h => h) (Or.inl ⟨by rfl, ?hyrr10_10⟩) (by assumption) ?_
              case hyrr10_10 =>
                intro w hSw
                try dsimp only at hSw
                go_simp
                try with_reducible rfl
              try simp only [Act.put, List.setIfInBounds_toArray, List.set_cons_zero, List.set_cons_succ, List.getElem_toArray, List.getElem_cons_zero, List.getElem_cons_succ]
              refine wpAnyH_take (i := 11) (v := ?vrr11_11) rfl (by kernel_rfl) (by kernel_rfl) (by kernel_rfl) (fun _ _ _ h => h) (Or.inl ⟨by rfl, ?hyrr11_11⟩) (by assumption) ?_
              case hyrr11_11 =>
                intro w hSw
                try dsimp only at hSw
                go_simp
                try with_reducible rfl
              try simp only [Act.put, List.setIfInBounds_toArray, List.set_cons_zero, List.set_cons_succ, List.getElem_toArray, List.getElem_cons_zero, List.getElem_cons_succ]
              refine wpAnyH_take (i := 12) (v := ?vrr12_12) rfl (by kernel_rfl) (by kernel_rfl) (by kernel_rfl) (fun _ _ _ h => h) (Or.inl ⟨by rfl, ?hyrr12_12⟩) (by assumption) ?_
              case hyrr12_12 =>
                intro w hSw
                try dsimp only at hSw
                go_simp
                try with_reducible rfl
              try simp only [Act.put, List.setIfInBounds_toArray, List.set_cons_zero, List.set_cons_succ, List.getElem_toArray, List.getElem_cons_zero, List.getElem_cons_succ]
              refine wpAnyH_take (i := 13) (v := ?vrr13_13) rfl (by kernel_rfl) (by kernel_rfl) (by kernel_rfl) (fun _ _ _ h => h) (Or.inl ⟨by rfl, ?hyrr13_13⟩) (by assumption) ?_
              case hyrr13_13 =>
                intro w hSw
                try dsimp only at hSw
                go_simp
                try with_reducible rfl
              try simp only [Act.put, List.setIfInBounds_toArray, List.set_cons_zero, List.set_cons_succ, List.getElem_toArray, List.getElem_cons_zero, List.getElem_cons_succ]
              refine wpAnyH_take (i := 14) (v := ?vrr14_14) rfl (by kernel_rfl) (by kernel_rfl) (by kernel_rfl) (fun _ _ _ h => h) (Or.inl ⟨by rfl, ?hyrr14_14⟩) (by assumption) ?_
              case hyrr14_14 =>
                intro w hSw
                try dsimp only at hSw
                go_simp
                try with_reducible rfl
              try simp only [Act.put, List.setIfInBounds_toArray, List.set_cons_zero, List.set_cons_succ, List.getElem_toArray, List.getElem_cons_zero, List.getElem_cons_succ]
              refine wpAnyH_ready (rs := [15]) (by kernel_rfl) (by simp) ?_
              refine AllReadyH.cons rfl (fun K hK => ?_) (AllReadyH.nil)
              go_simp
              refine (unhide CB _ (unhide E7).1).mono ?_
              rintro e z202 ⟨rfl, hw⟩
              replace hw := hw.symm
              subst hw
              go_wp2_with fail
              refine hK.out _ _ hS0 (fun _ => ?_)
              clear hK K
              try simp only [Act.put, List.setIfInBounds_toArray, List.set_cons_zero, List.set_cons_succ, List.getElem_toArray, List.getElem_cons_zero, List.getElem_cons_succ]
              refine wpAnyH_take (i := 16) (v := ?vrr15_16) rfl (by kernel_rfl) (by kernel_rfl) (by kernel_rfl) (fun _ _ _ h => h) (Or.inl ⟨by rfl, ?hyrr15_16⟩) (by assumption) ?_
              case hyrr15_16 =>
                intro w hSw
                try dsimp only at hSw
                go_simp
                try with_reducible rfl
              try simp only [Act.put, List.setIfInBounds_toArray, List.set_cons_zero, List.set_cons_succ, List.getElem_toArray, List.getElem_cons_zero, List.getElem_cons_succ]
              refine wpAnyH_done (by kernel_rfl) ?_ _
              go_wp2_with fail
              go_roundw
              case rel => exact ⟨j + 1, by omega, by go_num, unhide E7⟩
              case measure => simp [intOf]; omega
            · have djl : ¬ ((j : Int) < (Gt.length : Int)) := by omega
              by_cases hl0 : lost = 0
              · have e5 : ((Gt.length : Int) == (ts.length : Int)) = true := by
                  rw [unhide HGl, unhide FIN hl0, (unhide HT).1]
                  rfl
                have d0 : ¬ ((0 : Int) < (lost : Int)) := by omega
                cases lossy
                · go_wp2
                  go_ret
                  exact ⟨rfl, (unhide E6).2.2⟩
                · go_wp2
                  go_ret
                  exact ⟨rfl, (unhide E6).2.2⟩
              · have d0 : (0 : Int) < (lost : Int) := by omega
                cases lossy
                · exact absurd ((unhide HT).2.2 rfl) hl0
                · go_wp2
                  go_ret
                  exact ⟨rfl, (unhide E6).2.2⟩
end Go.Proofs.Ytfkeokfmancgiaa
