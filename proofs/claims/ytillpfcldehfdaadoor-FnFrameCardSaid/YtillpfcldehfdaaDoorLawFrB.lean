/- The law FnFrame walked: it returns true, and what lay in memory stands; under the library's two tables as they are laid. -/
import Derived.Test.YtillpfcldehfdaaDoorLawFrA
import Derived.Test.YtillpfcldehfdaaDoorFrG
import Derived.Test.YtillpfcldehfdaaDoorDrawDe
namespace Go.Proofs.YtillpfcldehfdaaDoor
open Go.RowKit
set_option maxHeartbeats 40000000 in
set_option maxRecDepth 100000 in
/-- The law's second part: what is left to be shown behind it. -/
noncomputable def lawFrB (w : World) (a1 a2 : Option Addr) (n1 n2 cap1 cap2 : Nat) (h1 : n1 ≤ maxLen) (h2 : n2 ≤ maxLen) (HD : Hid (Dat w w.heap.size (.slice a1 n1 cap1) n1 ∧ Dat w w.heap.size (.slice a2 n2 cap2) n2 ∧ Lib.Utf8Tabs 1 2 w)) (hl1 : n1 ≤ 1048576) (hl2 : n2 ≤ 1048576) :
    { R : Prop // Kept R → (lawFrA w a1 a2 n1 n2 cap1 cap2 h1 h2 HD hl1 hl2).1 } := by
  apply Subtype.mk
  case property =>
  intro hR
  obtain ⟨hD1, hD2, hT⟩ := unhide HD
  have HT := hide fun v (hv : Below w.heap.size w v) => Utf8Tabs_below hT hv
  have CD2 := hide fun v (hv : Below w.heap.size w v) => drawDeframe defrWord v (.slice a2 n2 cap2) n2 h2 ((hD2.below hv).mono hv.size)
  have CLW := hide fun v (hv : Below w.heap.size w v) (m : Nat) (hm : m ≤ 402) => lwAt v w.heap.size (.slice a1 n1 cap1) n1 0 (m + 1) (by decide) (by omega) h1 (hD1.below hv)
  clear hD1 hD2 hT
  have d1 : ¬ ((1048576 : Int) < (n1 : Int)) := by omega
  have d2 : ¬ ((1048576 : Int) < (n2 : Int)) := by omega
  unfold lawFrA
  dsimp only
  intro t x b f wc u4 u9 u10 u11 u21 u22 u23 u24 u25 u26 u27 u28 u29 u30 u31 u32 u33 u34 u35 u36 u37 u38 u39 u40 u41 u42 u43 u44 u45 u46 u47 u48 u49 u50 u51 u52 u53 u54 u55 u56 u57 u58 u59 u60 u61 u62 u63 u64 u65 u66 u67 u68 u69 u70 u71 u72 u73 u74 u75 u76 u77 u78 u79 u80 u81 u82 u83 u84 u85 u86 u87 u88 u89 u90 u91 u92 u93 u94 u95 u96 u97 u98 u99 u100 u101 u102 u103 u104 u105 u106 u107 u108 u109 u110 u111 u112 u113 u114 u115 u116 u117 u118 u119 u120 u121 u122 u123 u124 u125 u126 u127 u128 u129 u130 u131 u132 u133 u134 u135 u136 u137 u138 u139 u140 u141 u142 u143 u144 u145 u146 u147 u148 u149 u150 u151 u152 u153 u154 u155 u156 u157 u158 u159 u160 u161 u162 u163 u164 u165 u166 u167 u168 u169 u170 u171 u172 u173 u174 u175 u176 u177 u178 u179 u180 u181 u182 u183 u184 u185 u186 u187 u188 u189 u190 u191 u192 u193 u194 u195 u196 u197 u198 u199 u200 u201 u202 u203 u204 u205 u206 u207 u208 u209 u210 u211 u212 u213 u214 u215 u216 u217 u218 u219 u220 u221 u222 u223 u224 hcut KK aK
  go_wp2_with fail
  refine (unhide CD2 _ hcut).mono ?_
  rintro e w2 ⟨wd, y, ii, ss, ll, u, t2, rfl, hu, ht2, hb2⟩
  have hB2 := hcut.trans (hb2.mono hcut.size)
  have hum : u.size ≤ maxLen := by unfold maxLen; omega
  have htm : t2.size ≤ maxLen := by unfold maxLen; omega
  have CI := hide fun v (hv : Below w.heap.size w v) => implDefrAll wd y ii ss ll u t2 v hum htm (unhide HT v hv)
  have CS := hide fun v => specDefrAll wd y ii ss ll u t2 v hum htm
  have HY := hide fun hr => ans_yes (wd := wd) (x := y) (i := ii) (s := ss) (l := ll) (u := u) (t := t2) ht2 hr
  have HN := hide fun hr => ans_no (wd := wd) (x := y) (i := ii) (s := ss) (l := ll) (u := u) (t := t2) ht2 hr
  have hFl := ans_F wd y ii ss ll u t2
  generalize hA : ansOf wd y ii ss ll u t2 = A at *
  have HA := hide hA
  obtain ⟨Aw, Ax, Ai, Ae, Al, At, AF, Ac⟩ := A
  try dsimp only at hFl
  clear hA CD2 hb2 hcut htm
  go_wp2_with fail
  refine (unhide CI _ (hB2.alloc hB2.size _)).mono ?_
  rintro e w3 ⟨v1, rfl, ⟨hv1, hx1⟩, hb3⟩
  clear hx1
  try dsimp only at hv1
  obtain ⟨ad1, cp1, rfl⟩ := hv1.form
  dsimp only [ansV]
  have hd3 := (hb3.block w2.heap.size (by simp)).trans (heap_alloc_last w2 (.cells #[.bool wd, .int .i64 y, .bool ii, .bool ss, .bool ll, .string u] 38))
  have hB3 := (hB2.alloc hB2.size (.cells #[.bool wd, .int .i64 y, .bool ii, .bool ss, .bool ll, .string u] 38)).trans (hb3.mono (by have := hB2.size; simp; omega))
  clear hb3 CI
  go_upto_region 19 with fail
  refine gen_world (fun q => q.heap[w2.heap.size]? = some (.cells #[.bool wd, .int .i64 y, .bool ii, .bool ss, .bool ll, .string u] 38) ∧ q.heap[w3.heap.size]? = some (.cells #[.bool Aw, .int .i64 Ax, .bool Ai, .bool Ae, .bool Al, .string At, .slice ad1 AF.length cp1, .int .i64 Ac] 41) ∧ HoldsF q (.slice ad1 AF.length cp1) AF ∧ Below w.heap.size w q)
    ⟨(Below.heap_alloc _ _ _ (Array.getElem?_eq_some_iff.1 hd3).1).trans hd3, heap_alloc_new w3 _, hv1.below ((Below.refl _ _).alloc (Nat.le_refl _) _), hB3.alloc hB3.size _⟩ ?_
  rintro q3 ⟨gd3, gy3, gh3, gB3⟩
  generalize w2.heap.size = dB at *
  generalize w3.heap.size = yB at *
  clear hd3 hv1 hB3 hB2
  obtain ⟨c0, c1, c2, c3, c4, c5⟩ := row6d gd3
  have G3 := hide (And.intro gd3 (And.intro gy3 (And.intro gh3 gB3)))
  clear gd3 gy3 gh3 gB3
  go_wp2_with fail
  refine (unhide CS _).mono ?_
  rintro e w4 ⟨v2, rfl, ⟨hv2, hx2⟩, hb4⟩
  clear hx2
  try dsimp only at hv2
  obtain ⟨ad2, cp2, rfl⟩ := hv2.form
  dsimp only [ansV]
  clear CS c0 c1 c2 c3 c4 c5
  go_upto_region 20 with fail
  refine gen_world (fun q => FrS w dB yB w4.heap.size (.cells #[.bool wd, .int .i64 y, .bool ii, .bool ss, .bool ll, .string u] 38) (.cells #[.bool Aw, .int .i64 Ax, .bool Ai, .bool Ae, .bool Al, .string At, .slice ad1 AF.length cp1, .int .i64 Ac] 41) (.cells #[.bool Aw, .int .i64 Ax, .bool Ai, .bool Ae, .bool Al, .string At, .slice ad2 AF.length cp2, .int .i64 Ac] 41) (.slice ad1 AF.length cp1) (.slice ad2 AF.length cp2) AF q)
    (by
      obtain ⟨gd3, gy3, gh3, gB3⟩ := unhide G3
      have hb5 := hb4.trans ((Below.refl _ _).alloc hb4.size (.cells #[.bool Aw, .int .i64 Ax, .bool Ai, .bool Ae, .bool Al, .string At, .slice ad2 AF.length cp2, .int .i64 Ac] 41))
      exact ⟨(hb5.block dB (Array.getElem?_eq_some_iff.1 gd3).1).trans gd3, (hb5.block yB (Array.getElem?_eq_some_iff.1 gy3).1).trans gy3, heap_alloc_new w4 _, gh3.below hb5, hv2.below ((Below.refl _ _).alloc (Nat.le_refl _) _), gB3.trans (hb5.mono gB3.size)⟩) ?_
  rintro q4 G4
  generalize w4.heap.size = zB at *
  obtain ⟨y0, y1, y2, y3, y4, y5, y6, y7, p0, p1, p2, p3, p4, p5, p6, p7⟩ := row8s G4.y
  clear p0 p1 p2 p3 p4 p5 p6 p7
  obtain ⟨z0, z1, z2, z3, z4, z5, z6, z7, p0, p1, p2, p3, p4, p5, p6, p7⟩ := row8s G4.z
  clear p0 p1 p2 p3 p4 p5 p6 p7
  have HG := hide G4
  clear G3 hv2 hb4 G4
  cases hr : rightV y ii ss ll u
  · have e := unhide HN hr
    simp only [Ans.mk.injEq] at e
    obtain ⟨rfl, rfl, rfl, rfl, rfl, rfl, rfl, rfl⟩ := e
    go_wp2
    go_ret
    exact ⟨rfl, (unhide HG).b⟩
  · have e := unhide HY hr
    have hAc : Ac = 0 := congrArg Ans.code e
    subst hAc
    clear e HY HN
    go_upto_region 22 with fail
    have c := unhide CLW _ (unhide HG).b t2.size (by omega)
    rw [show ((t2.size + 1 : Nat) : Int) = (t2.size : Int) + 1 from rfl] at c
    clear y0 y1 y2 y3 y4 y5 y6 y7 z0 z1 z2 z3 z4 z5 z6 z7 CLW
    go_wp2_with fail
    refine c.mono ?_
    rintro e w5 ⟨k, rfl, hk, hw5⟩
    replace hw5 := hw5.symm
    subst hw5
    have hk2 : k ≤ t2.size := by omega
    clear hk c
    go_upto_region 23 with fail
    have hA2 : ∃ A2, ansOf wd y ii ss ll u (t2.extract 0 k) = A2 := ⟨_, rfl⟩
    obtain ⟨A2, hA2⟩ := hA2
    have hxs : (t2.extract 0 k).size ≤ maxLen := by rw [ByteArray.size_extract]; unfold maxLen; omega
    have CA := hide fun v (hv : Below w.heap.size w v) => implDefrAll wd y ii ss ll u (t2.extract 0 k) v hum hxs (unhide HT v hv)
    rw [hA2] at CA
    have HA2 := hide hA2
    have hk3 : (k : Int) ≤ (t2.size : Int) := by omega
    have hk0 : (0 : Int) ≤ (k : Int) := by omega
    clear hA2 hxs
    go_cut [17] (fun v wx => Ext (FrS w dB yB zB (.cells #[.bool wd, .int .i64 y, .bool ii, .bool ss, .bool ll, .string u] 38) (.cells #[.bool Aw, .int .i64 Ax, .bool Ai, .bool Ae, .bool Al, .string At, .slice ad1 AF.length cp1, .int .i64 0] 41) (.cells #[.bool Aw, .int .i64 Ax, .bool Ai, .bool Ae, .bool Al, .string At, .slice ad2 AF.length cp2, .int .i64 0] 41) (.slice ad1 AF.length cp1) (.slice ad2 AF.length cp2) AF) A2 v wx)
    case first =>
      have HL0 := hide (show q4.drew.heap.size < (q4.drew.alloc (.cells #[.bool false, .int .i64 0, .bool false, .bool false, .bool false, .string ⟨#[]⟩, .slice none 0 0, .int .i64 0] 41)).heap.size by simp)
      obtain ⟨c0, c1, c2, c3, c4, c5⟩ := row6d (unhide HG).d
      have hdl : dB < q4.heap.size := (Array.getElem?_eq_some_iff.1 (unhide HG).d).1
      have hne1 : ¬ (dB = q4.heap.size) := by omega
      have hne2 : ¬ (q4.heap.size = dB) := by omega
      obtain ⟨A2w, A2x, A2i, A2e, A2l, A2t, A2F, A2c⟩ := A2
      go_region_with (first
        | (go_at_call 21
           refine (unhide CA (q4.drew.alloc (.cells #[.bool false, .int .i64 0, .bool false, .bool false, .bool false, .string ⟨#[]⟩, .slice none 0 0, .int .i64 0] 41)) ((unhide HG).b.drew.alloc (unhide HG).b.size _)).mono ?_
           rintro e w6 ⟨v3, rfl, ⟨hv3, hn3⟩, hb6⟩
           obtain ⟨ad3, cp3, rfl⟩ := hv3.form
           have hr6 := (hb6.block q4.heap.size (unhide HL0)).trans (heap_alloc_last q4.drew (.cells #[.bool false, .int .i64 0, .bool false, .bool false, .bool false, .string ⟨#[]⟩, .slice none 0 0, .int .i64 0] 41))
           obtain ⟨x0, x1, x2, x3, x4, x5, x6, x7, f0, f1, f2, f3, f4, f5, f6, f7⟩ := row8s hr6
           dsimp only [ansV])
        | (go_at_call 21
           refine (unhide CA q4.drew (unhide HG).b.drew).mono ?_
           rintro e w6 ⟨v3, rfl, ⟨hv3, hn3⟩, hb6⟩
           obtain ⟨ad3, cp3, rfl⟩ := hv3.form
           dsimp only [ansV]))
      all_goals go_wp2_with fail
      all_goals go_meet
      · exact ext_new (A := ⟨A2w, A2x, A2i, A2e, A2l, A2t, A2F, A2c⟩) FrS.keep (unhide HG) ((Below.refl _ _).drew.trans hb6) hv3
      all_goals
        have hl0 := unhide HL0
        exact ext_put (A := ⟨A2w, A2x, A2i, A2e, A2l, A2t, A2F, A2c⟩) FrS.keep (unhide HG) (((Below.refl _ _).drew.alloc (Nat.le_refl _) _).trans (hb6.mono (Nat.le_of_lt hl0))) (Nat.le_refl _) hr6 hv3 (fun _ g hg => by
          have h3 := hn3 g hg
          have h4 : q4.heap.size < g := Nat.lt_of_lt_of_le hl0 h3
          omega)
    case rest =>
      clear HG CA hk3 hk0
      obtain ⟨aB, ad3, cp3, hu17, ha, hh3, hS⟩ := hcut
      subst hu17
      go_upto_region 24 with fail
      have hA3 : ∃ A3, ansOf A2.wide A2.x A2.inn A2.esc A2.long A2.text (t2.extract k t2.size) = A3 := ⟨_, rfl⟩
      obtain ⟨A3, hA3⟩ := hA3
      have hP := parts ht2 hr k hk2 _ _ _ (unhide HA) (unhide HA2) hA3
      obtain ⟨A2w, A2x, A2i, A2e, A2l, A2t, A2F, A2c⟩ := A2
      obtain ⟨A3w, A3x, A3i, A3e, A3l, A3t, A3F, A3c⟩ := A3
      dsimp only at hA3 hP ha hh3
      obtain ⟨⟨e1, e2, e3, e4, e5, e6⟩, hFF, hR1, hzz, hts2, hts1, hFl2⟩ := hP
      clear hzz
      replace e1 := e1.symm
      replace e2 := e2.symm
      replace e3 := e3.symm
      replace e4 := e4.symm
      replace e5 := e5.symm
      replace e6 := e6.symm
      subst e1 e2 e3 e4 e5 e6
      have hxs : (t2.extract k t2.size).size ≤ maxLen := by rw [ByteArray.size_extract]; unfold maxLen; omega
      have CB := hide fun v (hv : Below w.heap.size w v) => implDefrAll A2w A2x A2i A2e A2l A2t (t2.extract k t2.size) v (by unfold maxLen; omega) hxs (unhide HT v hv)
      rw [hA3] at CB
      have hk3 : (k : Int) ≤ (t2.size : Int) := by omega
      have hk0 : (0 : Int) ≤ (k : Int) := by omega
      refine gen_world (fun q => (FrT (FrS w dB yB zB (.cells #[.bool wd, .int .i64 y, .bool ii, .bool ss, .bool ll, .string u] 38) (.cells #[.bool Aw, .int .i64 Ax, .bool Ai, .bool Ae, .bool Al, .string At, .slice ad1 AF.length cp1, .int .i64 0] 41) (.cells #[.bool Aw, .int .i64 Ax, .bool Ai, .bool Ae, .bool Al, .string At, .slice ad2 AF.length cp2, .int .i64 0] 41) (.slice ad1 AF.length cp1) (.slice ad2 AF.length cp2) AF) aB (.cells #[.bool A2w, .int .i64 A2x, .bool A2i, .bool A2e, .bool A2l, .string A2t, .slice ad3 A2F.length cp3, .int .i64 A2c] 41) (.slice ad3 A2F.length cp3) A2F) q) ⟨hS, ha, hh3⟩ ?_
      rintro q5 G5
      have HG5 := hide G5
      clear hA3 hxs hS ha hh3 G5 HA HA2 hr hu hum
      rename_i KK2 aK2
      revert t x b f u4 u9 u10 u11 wd y ii ss ll u t2 ht2 Aw Ax Ai Ae Al At AF hFl ad1 cp1 dB yB ad2 cp2 zB k hk2 u21 u22 u23 u24 u25 u26 u27 u28 u29 u30 u31 u32 u33 u34 u35 u36 u37 u38 u39 u40 u41 u42 u43 u44 u45 u46 u47 u48 u49 u50 u51 u52 u53 u54 u55 u56 u57 u58 u59 u60 u61 u62 u63 u64 u65 u66 u67 u68 u69 u70 u71 u72 u73 u74 u75 u76 u77 u78 u79 u80 u81 u82 u83 u84 u85 u86 u87 u88 u89 u90 u91 u92 u93 u94 u95 u96 u97 u98 u99 u100 u101 u102 u103 u104 u105 u106 u107 u108 u109 u110 u111 u112 u113 u114 u115 u116 u117 u118 u119 u120 u121 u122 u123 u124 u125 u126 u127 u128 u129 u130 u131 u132 u133 u134 u135 u136 u137 u138 u139 u140 u141 u142 u143 u144 u145 u146 u147 u148 u149 u150 u151 u152 u153 u154 u155 u156 u157 u158 u159 u160 u161 u162 u163 u164 u165 u166 u167 u168 u169 u170 u171 u172 u173 u174 u175 u176 u177 u178 u179 u180 u181 u182 u183 u184 u185 u186 u187 u188 u189 u190 u191 u192 u193 u194 u195 u196 u197 u198 u199 u200 u201 u202 u203 u204 u205 u206 u207 u208 u209 u210 u211 u212 u213 u214 u215 u216 u217 u218 u219 u220 u221 u222 u223 u224 aB ad3 cp3 KK2 aK2 A2w A2x A2i A2e A2l A2t A2F A2c A3F A3c hFF hR1 hts2 hts1 hFl2 CB hk3 hk0 q5 HG5
      exact hR.out
end Go.Proofs.YtillpfcldehfdaaDoor
