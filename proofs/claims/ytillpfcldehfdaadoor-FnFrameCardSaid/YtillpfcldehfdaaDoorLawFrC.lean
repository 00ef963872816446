/- The law FnFrame walked: it returns true, and what lay in memory stands; under the library's two tables as they are laid. -/
import Derived.Test.YtillpfcldehfdaaDoorLawFrB
import Derived.Test.YtillpfcldehfdaaDoorFrG
import Derived.Test.YtillpfcldehfdaaDoorDrawDe
namespace Go.Proofs.YtillpfcldehfdaaDoor
open Go.RowKit
set_option maxHeartbeats 40000000 in
set_option maxRecDepth 100000 in
theorem lawFrC (w : World) (a1 a2 : Option Addr) (n1 n2 cap1 cap2 : Nat) (h1 : n1 ≤ maxLen) (h2 : n2 ≤ maxLen) (HD : Hid (Dat w w.heap.size (.slice a1 n1 cap1) n1 ∧ Dat w w.heap.size (.slice a2 n2 cap2) n2 ∧ Lib.Utf8Tabs 1 2 w)) (hl1 : n1 ≤ 1048576) (hl2 : n2 ≤ 1048576) : (lawFrB w a1 a2 n1 n2 cap1 cap2 h1 h2 HD hl1 hl2).1 := by
  unfold lawFrB
  dsimp only
  intro t x b f u4 u9 u10 u11 wd y ii ss ll u t2 ht2 Aw Ax Ai Ae Al At AF hFl ad1 cp1 dB yB ad2 cp2 zB k hk2 u21 u22 u23 u24 u25 u26 u27 u28 u29 u30 u31 u32 u33 u34 u35 u36 u37 u38 u39 u40 u41 u42 u43 u44 u45 u46 u47 u48 u49 u50 u51 u52 u53 u54 u55 u56 u57 u58 u59 u60 u61 u62 u63 u64 u65 u66 u67 u68 u69 u70 u71 u72 u73 u74 u75 u76 u77 u78 u79 u80 u81 u82 u83 u84 u85 u86 u87 u88 u89 u90 u91 u92 u93 u94 u95 u96 u97 u98 u99 u100 u101 u102 u103 u104 u105 u106 u107 u108 u109 u110 u111 u112 u113 u114 u115 u116 u117 u118 u119 u120 u121 u122 u123 u124 u125 u126 u127 u128 u129 u130 u131 u132 u133 u134 u135 u136 u137 u138 u139 u140 u141 u142 u143 u144 u145 u146 u147 u148 u149 u150 u151 u152 u153 u154 u155 u156 u157 u158 u159 u160 u161 u162 u163 u164 u165 u166 u167 u168 u169 u170 u171 u172 u173 u174 u175 u176 u177 u178 u179 u180 u181 u182 u183 u184 u185 u186 u187 u188 u189 u190 u191 u192 u193 u194 u195 u196 u197 u198 u199 u200 u201 u202 u203 u204 u205 u206 u207 u208 u209 u210 u211 u212 u213 u214 u215 u216 u217 u218 u219 u220 u221 u222 u223 u224 aB ad3 cp3 KK2 aK2 A2w A2x A2i A2e A2l A2t A2F A2c A3F A3c hFF hR1 hts2 hts1 hFl2 CB hk3 hk0 q5 HG5
  go_cut [18] (fun v wx => Ext (FrT (FrS w dB yB zB (.cells #[.bool wd, .int .i64 y, .bool ii, .bool ss, .bool ll, .string u] 38) (.cells #[.bool Aw, .int .i64 Ax, .bool Ai, .bool Ae, .bool Al, .string At, .slice ad1 AF.length cp1, .int .i64 0] 41) (.cells #[.bool Aw, .int .i64 Ax, .bool Ai, .bool Ae, .bool Al, .string At, .slice ad2 AF.length cp2, .int .i64 0] 41) (.slice ad1 AF.length cp1) (.slice ad2 AF.length cp2) AF) aB (.cells #[.bool A2w, .int .i64 A2x, .bool A2i, .bool A2e, .bool A2l, .string A2t, .slice ad3 A2F.length cp3, .int .i64 A2c] 41) (.slice ad3 A2F.length cp3) A2F) ⟨Aw, Ax, Ai, Ae, Al, At, A3F, A3c⟩ v wx)
  case first =>
    have HL0 := hide (show q5.drew.heap.size < (q5.drew.alloc (.cells #[.bool false, .int .i64 0, .bool false, .bool false, .bool false, .string ⟨#[]⟩, .slice none 0 0, .int .i64 0] 41)).heap.size by simp)
    obtain ⟨c0, c1, c2, c3, c4, c5, c6, c7, _, _, _, _, _, _, _, _⟩ := row8s (unhide HG5).a
    have hdl : aB < q5.heap.size := (Array.getElem?_eq_some_iff.1 (unhide HG5).a).1
    have hne1 : ¬ (aB = q5.heap.size) := by omega
    have hne2 : ¬ (q5.heap.size = aB) := by omega
    go_region_with (first
      | (go_at_call 21
         refine (unhide CB (q5.drew.alloc (.cells #[.bool false, .int .i64 0, .bool false, .bool false, .bool false, .string ⟨#[]⟩, .slice none 0 0, .int .i64 0] 41)) ((unhide HG5).s.b.drew.alloc (unhide HG5).s.b.size _)).mono ?_
         rintro e w6 ⟨v4, rfl, ⟨hv4, hn4⟩, hb6⟩
         obtain ⟨ad4, cp4, rfl⟩ := hv4.form
         have hr6 := (hb6.block q5.heap.size (unhide HL0)).trans (heap_alloc_last q5.drew (.cells #[.bool false, .int .i64 0, .bool false, .bool false, .bool false, .string ⟨#[]⟩, .slice none 0 0, .int .i64 0] 41))
         obtain ⟨x0, x1, x2, x3, x4, x5, x6, x7, f0, f1, f2, f3, f4, f5, f6, f7⟩ := row8s hr6
         dsimp only [ansV])
      | (go_at_call 21
         refine (unhide CB q5.drew (unhide HG5).s.b.drew).mono ?_
         rintro e w6 ⟨v4, rfl, ⟨hv4, hn4⟩, hb6⟩
         obtain ⟨ad4, cp4, rfl⟩ := hv4.form
         dsimp only [ansV]))
    all_goals go_wp2_with fail
    all_goals go_meet
    · exact ext_new (A := ⟨Aw, Ax, Ai, Ae, Al, At, A3F, A3c⟩) (FrT.keep FrS.keep) (unhide HG5) ((Below.refl _ _).drew.trans hb6) hv4
    all_goals
      have hl0 := unhide HL0
      exact ext_put (A := ⟨Aw, Ax, Ai, Ae, Al, At, A3F, A3c⟩) (FrT.keep FrS.keep) (unhide HG5) (((Below.refl _ _).drew.alloc (Nat.le_refl _) _).trans (hb6.mono (Nat.le_of_lt hl0))) (Nat.le_refl _) hr6 hv4 (fun _ g hg => by
        have h3 := hn4 g hg
        have h4 : q5.heap.size < g := Nat.lt_of_lt_of_le hl0 h3
        omega)
  case rest =>
    clear HG5 CB hk3 hk0
    obtain ⟨bB, ad4, cp4, hu18, hbb, hh4, hS⟩ := hcut
    subst hu18
    dsimp only at hbb hh4
    go_upto_region 25 with fail
    refine gen_world (fun q => (FrT (FrT (FrS w dB yB zB (.cells #[.bool wd, .int .i64 y, .bool ii, .bool ss, .bool ll, .string u] 38) (.cells #[.bool Aw, .int .i64 Ax, .bool Ai, .bool Ae, .bool Al, .string At, .slice ad1 AF.length cp1, .int .i64 0] 41) (.cells #[.bool Aw, .int .i64 Ax, .bool Ai, .bool Ae, .bool Al, .string At, .slice ad2 AF.length cp2, .int .i64 0] 41) (.slice ad1 AF.length cp1) (.slice ad2 AF.length cp2) AF) aB (.cells #[.bool A2w, .int .i64 A2x, .bool A2i, .bool A2e, .bool A2l, .string A2t, .slice ad3 A2F.length cp3, .int .i64 A2c] 41) (.slice ad3 A2F.length cp3) A2F) bB (.cells #[.bool Aw, .int .i64 Ax, .bool Ai, .bool Ae, .bool Al, .string At, .slice ad4 A3F.length cp4, .int .i64 A3c] 41) (.slice ad4 A3F.length cp4) A3F) q) ⟨hS, hbb, hh4⟩ ?_
    rintro q6 G6
    have HG6 := hide G6
    clear hbb hh4 hS G6
    have hl2 : A2F.length ≤ 1000 := by rw [hFF, List.length_append] at hFl2; omega
    have hl3 : A3F.length ≤ 1000 := by rw [hFF, List.length_append] at hFl2; omega
    go_cut [19] (fun v wx => (FrT (FrT (FrS w dB yB zB (.cells #[.bool wd, .int .i64 y, .bool ii, .bool ss, .bool ll, .string u] 38) (.cells #[.bool Aw, .int .i64 Ax, .bool Ai, .bool Ae, .bool Al, .string At, .slice ad1 AF.length cp1, .int .i64 0] 41) (.cells #[.bool Aw, .int .i64 Ax, .bool Ai, .bool Ae, .bool Al, .string At, .slice ad2 AF.length cp2, .int .i64 0] 41) (.slice ad1 AF.length cp1) (.slice ad2 AF.length cp2) AF) aB (.cells #[.bool A2w, .int .i64 A2x, .bool A2i, .bool A2e, .bool A2l, .string A2t, .slice ad3 A2F.length cp3, .int .i64 A2c] 41) (.slice ad3 A2F.length cp3) A2F) bB (.cells #[.bool Aw, .int .i64 Ax, .bool Ai, .bool Ae, .bool Al, .string At, .slice ad4 A3F.length cp4, .int .i64 A3c] 41) (.slice ad4 A3F.length cp4) A3F) wx ∧ HoldsF wx v AF)
    case first =>
      obtain ⟨_, _, _, _, _, _, c6, _, _, _, _, _, _, _, _, _⟩ := row8s (unhide HG6).s.a
      obtain ⟨_, _, _, _, _, _, e6, _, _, _, _, _, _, _, _, _⟩ := row8s (unhide HG6).a
      have hla : aB < q6.heap.size := (Array.getElem?_eq_some_iff.1 (unhide HG6).s.a).1
      have hlb : bB < q6.heap.size := (Array.getElem?_eq_some_iff.1 (unhide HG6).a).1
      have hne1 : ¬ (aB = q6.heap.size) := by omega
      have hne2 : ¬ (q6.heap.size = aB) := by omega
      have hne3 : ¬ (bB = q6.heap.size) := by omega
      have hne4 : ¬ (q6.heap.size = bB) := by omega
      have hbd : Below q6.heap.size q6 (q6.drew.alloc (.cells #[] 44)) := (Below.refl _ _).drew.alloc (Nat.le_refl _) _
      have hw0 : (q6.drew.alloc (.cells #[] 44)).ownsRow q6.heap.size 44 2 (.slice (some ⟨q6.heap.size, 0, none⟩) 0 0) ([] : List Hd.Fd).length (fcells []) := World.ownsRow_lit q6.drew #[] 0 (Nat.le_refl _) (Nat.zero_le _) rfl
      have HW0 := hide (And.intro hbd hw0)
      clear hbd hw0
      go_region_held3 (fun z => z.cell? ⟨aB, 6, none⟩ = some (.slice ad3 A2F.length cp3) ∧ z.cell? ⟨bB, 6, none⟩ = some (.slice ad4 A3F.length cp4))
        (first | go_keep | exact unhide HK7 | exact unhide HK8)
        (first
          | (refine step_append_fd (q6.drew.alloc (.cells #[] 44)) (by rfl) _ _ (by rfl) q6.heap.size (.slice (some ⟨q6.heap.size, 0, none⟩) 0 0) (.slice ad3 A2F.length cp3) [] A2F (by rfl) (by rfl) (unhide HW0).2 ((unhide HG6).s.h.below (unhide HW0).1) (Nat.zero_le _) hl2 (unhide HW0).1.size ?_
             intro v7 w7 ho7 hg7
             rw [List.nil_append] at ho7
             have hb7 : Below q6.heap.size q6 w7 := (unhide HW0).1.grown hg7 (unhide HW0).1.size (fun k hk => by cases hk; exact Nat.le_refl _)
             obtain ⟨ad7, cp7, rfl⟩ := own_form ho7
             have HK7 := hide (And.intro ((hb7.cell (p := ⟨aB, 6, none⟩) hla).trans c6) ((hb7.cell (p := ⟨bB, 6, none⟩) hlb).trans e6))
             have HO7 := hide (And.intro ho7 hb7)
             clear ho7 hg7 hb7)
          | (refine step_append_fd w7 (by rfl) _ _ (by rfl) q6.heap.size (.slice ad7 A2F.length cp7) (.slice ad4 A3F.length cp4) A2F A3F (by rfl) (by rfl) (unhide HO7).1 ((unhide HG6).h.below (unhide HO7).2) hl2 hl3 (unhide HO7).2.size ?_
             intro v8 w8 ho8 hg8
             have hb8 : Below q6.heap.size q6 w8 := (unhide HO7).2.grown hg8 (unhide HO7).2.size (fun k hk => (World.ownsRow.lt (unhide HO7).1 k hk).1)
             obtain ⟨ad8, cp8, rfl⟩ := own_form ho8
             have HK8 := hide (And.intro ((hb8.cell (p := ⟨aB, 6, none⟩) hla).trans c6) ((hb8.cell (p := ⟨bB, 6, none⟩) hlb).trans e6))
             have HO8 := hide (And.intro ho8 hb8)
             clear ho8 hg8 hb8))
      all_goals
        go_wp2_with fail
        go_meet
        refine ⟨FrT.keep (FrT.keep FrS.keep) _ _ (unhide HG6) (unhide HO8).2, ?_⟩
        have h9 := HoldsF.own (unhide HO8).1
        rw [List.length_append] at h9
        rw [hFF]
        exact h9
    case rest =>
      clear HG6 hl2 hl3 hFF
      obtain ⟨hT3, hL⟩ := hcut
      obtain ⟨adl, cpl, hul⟩ := hL.form
      subst hul
      have CR := hide fun v => implRight Aw Ax Ai Ae Al At v (by unfold maxLen; omega)
      rw [hR1] at CR
      obtain ⟨b0, b1, b2, b3, b4, b5, b6, b7, _, _, _, _, _, _, _, _⟩ := row8s hT3.a
      obtain ⟨y0, y1, y2, y3, y4, y5, y6, y7, _, _, _, _, _, _, _, _⟩ := row8s hT3.s.s.y
      have HS := hide (And.intro hT3.s.s hL)
      clear hT3 hL hR1
      go_wp2_with fail
      refine (unhide CR _).mono ?_
      rintro e w9 ⟨rfl, hb9⟩
      have HS9 := hide (And.intro ((unhide HS).1.new hb9) ((unhide HS).2.below hb9))
      clear b0 b1 b2 b3 b4 b5 b6 b7 y0 y1 y2 y3 y4 y5 y6 y7 HS hb9 CR
      go_wp2_with fail
      go_loopw [20] (fun v wr => ∃ i : Nat, i ≤ AF.length ∧ v = .int .i64 i ∧ FrS w dB yB zB (.cells #[.bool wd, .int .i64 y, .bool ii, .bool ss, .bool ll, .string u] 38) (.cells #[.bool Aw, .int .i64 Ax, .bool Ai, .bool Ae, .bool Al, .string At, .slice ad1 AF.length cp1, .int .i64 0] 41) (.cells #[.bool Aw, .int .i64 Ax, .bool Ai, .bool Ae, .bool Al, .string At, .slice ad2 AF.length cp2, .int .i64 0] 41) (.slice ad1 AF.length cp1) (.slice ad2 AF.length cp2) AF wr ∧ HoldsF wr (.slice adl AF.length cpl) AF) (fun v _ => AF.length - (intOf v).toNat)
      case atStart => exact ⟨0, Nat.zero_le _, rfl, (unhide HS9).1, (unhide HS9).2⟩
      case round =>
        obtain ⟨i, hi, rfl, hSr, hLr⟩ := hrel
        clear HS9
        by_cases hlt : i < AF.length
        · have l1 : (i : Int) < (AF.length : Int) := by omega
          have hne : AF ≠ [] := fun e => by rw [e] at hlt; exact Nat.not_lt_zero _ hlt
          have HSr := hide (And.intro hSr hLr)
          obtain ⟨fk, ft⟩ := fcells_get AF i (AF[i]) (List.getElem?_eq_getElem hlt)
          obtain ⟨_, _, _, _, _, _, y6, _, _, _, _, _, _, _, _, _⟩ := row8s hSr.y
          obtain ⟨_, _, _, _, _, _, z6, _, _, _, _, _, _, _, _, _⟩ := row8s hSr.z
          have h1 := hSr.h1
          have h2 := hSr.h2
          generalize AF[i].kind = fkind at *
          generalize txt AF[i].text = ftext at *
          clear hSr
          rcases h1 with ⟨_, _, _, e⟩ | ⟨g1, c1, cur1, e, p1, p2, p3⟩
          · exact absurd e hne
          rcases h2 with ⟨_, _, _, e'⟩ | ⟨g2, c2, cur2, e', q1, q2, q3⟩
          · exact absurd e' hne
          rcases hLr with ⟨_, _, _, e''⟩ | ⟨g3, c3, cur3, e'', r1, r2, r3⟩
          · exact absurd e'' hne
          cases e
          cases e'
          cases e''
          have k1 : wr.cell? ⟨g1, i * 2, none⟩ = some (.int .i64 fkind) := by rw [cell_of_row _ _ _ _ _ _ p1]; exact (p3 _ (by omega)).trans fk
          have k2 : wr.cell? ⟨g1, i * 2 + 1, none⟩ = some (.string ftext) := by rw [cell_of_row _ _ _ _ _ _ p1]; exact (p3 _ (by omega)).trans ft
          have k3 : wr.cell? ⟨g2, i * 2, none⟩ = some (.int .i64 fkind) := by rw [cell_of_row _ _ _ _ _ _ q1]; exact (q3 _ (by omega)).trans fk
          have k4 : wr.cell? ⟨g2, i * 2 + 1, none⟩ = some (.string ftext) := by rw [cell_of_row _ _ _ _ _ _ q1]; exact (q3 _ (by omega)).trans ft
          have k5 : wr.cell? ⟨g3, i * 2, none⟩ = some (.int .i64 fkind) := by rw [cell_of_row _ _ _ _ _ _ r1]; exact (r3 _ (by omega)).trans fk
          have k6 : wr.cell? ⟨g3, i * 2 + 1, none⟩ = some (.string ftext) := by rw [cell_of_row _ _ _ _ _ _ r1]; exact (r3 _ (by omega)).trans ft
          clear p1 p2 p3 q1 q2 q3 r1 r2 r3 fk ft
          have HSd : Hid (∀ nq, _ ∧ _) := hide fun nq => And.intro ((unhide HSr).1.new (wy := wr.drewN nq) ⟨rfl, rfl, rfl, Nat.le_refl _, fun _ _ => rfl⟩) ((unhide HSr).2.below (w' := wr.drewN nq) ⟨rfl, rfl, rfl, Nat.le_refl _, fun _ _ => rfl⟩)
          clear HSr
          go_wp2_with fail
          go_quiet (fail)
          go_wp2_with fail
          go_roundw
          case rel => exact ⟨i + 1, by omega, by go_num, (unhide HSd _).1, (unhide HSd _).2⟩
          case measure => simp [intOf]; omega
        · have l1 : ¬ ((i : Int) < (AF.length : Int)) := by omega
          go_wp2
          go_ret
          exact ⟨rfl, hSr.b⟩
theorem lawFr (w : World) (s1 s2 : Value) (n1 n2 : Nat) (h1 : n1 ≤ maxLen) (h2 : n2 ≤ maxLen) (hD1 : Dat w w.heap.size s1 n1) (hD2 : Dat w w.heap.size s2 n2)
    (hT : Lib.Utf8Tabs 1 2 w) (hl1 : n1 ≤ 1048576) (hl2 : n2 ≤ 1048576) :
    Calls Tryd.prog 4 #[s1, s2] w fun e w' => e = .returned (.bool true) ∧ Below w.heap.size w w' := by
  obtain ⟨a1, cap1, rfl⟩ := hD1.1
  obtain ⟨a2, cap2, rfl⟩ := hD2.1
  have HD := hide (And.intro hD1 (And.intro hD2 hT))
  exact (lawFrA w a1 a2 n1 n2 cap1 cap2 h1 h2 HD hl1 hl2).2 ⟨(lawFrB w a1 a2 n1 n2 cap1 cap2 h1 h2 HD hl1 hl2).2 ⟨lawFrC w a1 a2 n1 n2 cap1 cap2 h1 h2 HD hl1 hl2⟩⟩
end Go.Proofs.YtillpfcldehfdaaDoor
