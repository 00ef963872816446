/- The law FnFrame walked: it returns true, and what lay in memory stands; under the library's two tables as they are laid. -/
import Derived.Test.YtillpfcldehfdaaDoorFrG
import Derived.Test.YtillpfcldehfdaaDoorDrawDe
namespace Go.Proofs.YtillpfcldehfdaaDoor
open Go.RowKit
/-- A byte is no flag, nor mapped. -/
def PlainC (a : Nat) (c : UInt8) : Prop := ((c.toNat : Int) == 126) = false ∧ (decide ((c.toNat : Int) < 32) = false ∨ decide ((c.toNat : Int) < 32) = true ∧ (bits .and .i64 ((a : Int) / 2 ^ c.toNat) 1 == 1) = false)
/-- Nothing stuffed is a flag or mapped. -/
theorem stuffV_plain {t : ByteArray} {a : Nat} (ha : a < 4294967296) (k : Nat) (hk : k < (stuffV t a).size) : PlainC a (stuffV t a)[k] := by
  have hm : (stuffV t a)[k] ∈ Hd.stuff a t.data.toList := by
    by_cases hc : t.size ≤ 8000 ∧ accOk (a : Int) = true
    · have e : stuffV t a = txt (Hd.stuff a t.data.toList) := by
        unfold stuffV
        rw [if_pos hc, Int.toNat_natCast]
      have hk2 : k < (Hd.stuff a t.data.toList).length := by rw [e, txt_size] at hk; exact hk
      have : (stuffV t a)[k] = (Hd.stuff a t.data.toList)[k] := by
        simp only [e]
        rfl
      rw [this]
      exact List.getElem_mem _
    · have e : stuffV t a = ⟨#[]⟩ := if_neg hc
      rw [e] at hk
      exact absurd hk (Nat.not_lt_zero _)
  generalize (stuffV t a)[k] = c at *
  obtain ⟨h1, h2⟩ := Hd.stuff_plain a _ _ hm
  refine ⟨u8_ne h1, ?_⟩
  by_cases h3 : c.toNat < 32
  · refine Or.inr ⟨decide_eq_true (by omega), ?_⟩
    rw [shr_and a _ ha]
    unfold Hd.mapped at h2
    rw [decide_eq_true h3, Bool.true_and] at h2
    exact h2
  · exact Or.inl (decide_eq_false (by omega))
/-- A drawn Deframer and two answers, as memory holds them. -/
structure FrS (w : World) (dB yB zB : Nat) (D Y Z : Obj) (v1 v2 : Value) (F : List Hd.Fd) (wx : World) : Prop where
  d : wx.heap[dB]? = some D
  y : wx.heap[yB]? = some Y
  z : wx.heap[zB]? = some Z
  h1 : HoldsF wx v1 F
  h2 : HoldsF wx v2 F
  b : Below w.heap.size w wx
theorem FrS.new {w wx wy : World} {dB yB zB : Nat} {D Y Z : Obj} {v1 v2 : Value} {F : List Hd.Fd} (h : FrS w dB yB zB D Y Z v1 v2 F wx) (hb : Below wx.heap.size wx wy) : FrS w dB yB zB D Y Z v1 v2 F wy :=
  ⟨(hb.block dB (Array.getElem?_eq_some_iff.1 h.d).1).trans h.d, (hb.block yB (Array.getElem?_eq_some_iff.1 h.y).1).trans h.y, (hb.block zB (Array.getElem?_eq_some_iff.1 h.z).1).trans h.z, h.h1.below hb, h.h2.below hb, h.b.trans (hb.mono h.b.size)⟩
theorem put8_block {W : World} {B : Nat} {x0 x1 x2 x3 x4 x5 x6 x7 : Value} {T : TypeId} (h : W.heap[B]? = some (.cells #[x0, x1, x2, x3, x4, x5, x6, x7] T)) (y0 y1 y2 y3 y4 y5 y6 y7 : Value) :
    ((((((((W.setCell ⟨B, 0, none⟩ y0).setCell ⟨B, 1, none⟩ y1).setCell ⟨B, 2, none⟩ y2).setCell ⟨B, 3, none⟩ y3).setCell ⟨B, 4, none⟩ y4).setCell ⟨B, 5, none⟩ y5).setCell ⟨B, 6, none⟩ y6).setCell ⟨B, 7, none⟩ y7).heap[B]? = some (.cells #[y0, y1, y2, y3, y4, y5, y6, y7] T) := by
  have h0 : (W.setCell ⟨B, 0, none⟩ y0).heap[B]? = some (.cells #[y0, x1, x2, x3, x4, x5, x6, x7] T) := heap_setCell_same _ _ 0 _ _ _ h
  have h1 : ((W.setCell ⟨B, 0, none⟩ y0).setCell ⟨B, 1, none⟩ y1).heap[B]? = some (.cells #[y0, y1, x2, x3, x4, x5, x6, x7] T) := heap_setCell_same _ _ 1 _ _ _ h0
  have h2 : (((W.setCell ⟨B, 0, none⟩ y0).setCell ⟨B, 1, none⟩ y1).setCell ⟨B, 2, none⟩ y2).heap[B]? = some (.cells #[y0, y1, y2, x3, x4, x5, x6, x7] T) := heap_setCell_same _ _ 2 _ _ _ h1
  have h3 : ((((W.setCell ⟨B, 0, none⟩ y0).setCell ⟨B, 1, none⟩ y1).setCell ⟨B, 2, none⟩ y2).setCell ⟨B, 3, none⟩ y3).heap[B]? = some (.cells #[y0, y1, y2, y3, x4, x5, x6, x7] T) := heap_setCell_same _ _ 3 _ _ _ h2
  have h4 : (((((W.setCell ⟨B, 0, none⟩ y0).setCell ⟨B, 1, none⟩ y1).setCell ⟨B, 2, none⟩ y2).setCell ⟨B, 3, none⟩ y3).setCell ⟨B, 4, none⟩ y4).heap[B]? = some (.cells #[y0, y1, y2, y3, y4, x5, x6, x7] T) := heap_setCell_same _ _ 4 _ _ _ h3
  have h5 : ((((((W.setCell ⟨B, 0, none⟩ y0).setCell ⟨B, 1, none⟩ y1).setCell ⟨B, 2, none⟩ y2).setCell ⟨B, 3, none⟩ y3).setCell ⟨B, 4, none⟩ y4).setCell ⟨B, 5, none⟩ y5).heap[B]? = some (.cells #[y0, y1, y2, y3, y4, y5, x6, x7] T) := heap_setCell_same _ _ 5 _ _ _ h4
  have h6 : (((((((W.setCell ⟨B, 0, none⟩ y0).setCell ⟨B, 1, none⟩ y1).setCell ⟨B, 2, none⟩ y2).setCell ⟨B, 3, none⟩ y3).setCell ⟨B, 4, none⟩ y4).setCell ⟨B, 5, none⟩ y5).setCell ⟨B, 6, none⟩ y6).heap[B]? = some (.cells #[y0, y1, y2, y3, y4, y5, y6, x7] T) := heap_setCell_same _ _ 6 _ _ _ h5
  have h7 : ((((((((W.setCell ⟨B, 0, none⟩ y0).setCell ⟨B, 1, none⟩ y1).setCell ⟨B, 2, none⟩ y2).setCell ⟨B, 3, none⟩ y3).setCell ⟨B, 4, none⟩ y4).setCell ⟨B, 5, none⟩ y5).setCell ⟨B, 6, none⟩ y6).setCell ⟨B, 7, none⟩ y7).heap[B]? = some (.cells #[y0, y1, y2, y3, y4, y5, y6, y7] T) := heap_setCell_same _ _ 7 _ _ _ h6
  exact h7
theorem put8_other {W : World} {B g : Nat} (hg : g ≠ B) (y0 y1 y2 y3 y4 y5 y6 y7 : Value) : ((((((((W.setCell ⟨B, 0, none⟩ y0).setCell ⟨B, 1, none⟩ y1).setCell ⟨B, 2, none⟩ y2).setCell ⟨B, 3, none⟩ y3).setCell ⟨B, 4, none⟩ y4).setCell ⟨B, 5, none⟩ y5).setCell ⟨B, 6, none⟩ y6).setCell ⟨B, 7, none⟩ y7).heap[g]? = W.heap[g]? := by
  rw [Below.heap_setCell _ _ _ _ hg, Below.heap_setCell _ _ _ _ hg, Below.heap_setCell _ _ _ _ hg, Below.heap_setCell _ _ _ _ hg, Below.heap_setCell _ _ _ _ hg, Below.heap_setCell _ _ _ _ hg, Below.heap_setCell _ _ _ _ hg, Below.heap_setCell _ _ _ _ hg]
/-- An answer lies in memory, and what S says stands. -/
def Ext (S : World → Prop) (A : Ans) (v : Value) (wx : World) : Prop :=
  ∃ (B : Nat) (ad : Option Addr) (cp : Nat), v = .pointer (some ⟨B, 0, none⟩) ∧ wx.heap[B]? = some (.cells #[.bool A.wide, .int .i64 A.x, .bool A.inn, .bool A.esc, .bool A.long, .string A.text, .slice ad A.F.length cp, .int .i64 A.code] 41) ∧ HoldsF wx (.slice ad A.F.length cp) A.F ∧ S wx
theorem ext_put {S : World → Prop} (hS : ∀ a b, S a → Below a.heap.size a b → S b) {A : Ans} {q W : World} {B : Nat} {ad : Option Addr} {cp : Nat} {x0 x1 x2 x3 x4 x5 x6 x7 : Value} (hq : S q) (hb : Below q.heap.size q W) (hB : q.heap.size ≤ B)
    (hrow : W.heap[B]? = some (.cells #[x0, x1, x2, x3, x4, x5, x6, x7] 41)) (hh : HoldsF W (.slice ad A.F.length cp) A.F) (hne : A.F ≠ [] → ∀ g, (Value.slice ad A.F.length cp).ownBlock = some g → g ≠ B) :
    Ext S A (.pointer (some ⟨B, 0, none⟩)) ((((((((W.setCell ⟨B, 0, none⟩ (.bool A.wide)).setCell ⟨B, 1, none⟩ (.int .i64 A.x)).setCell ⟨B, 2, none⟩ (.bool A.inn)).setCell ⟨B, 3, none⟩ (.bool A.esc)).setCell ⟨B, 4, none⟩ (.bool A.long)).setCell ⟨B, 5, none⟩ (.string A.text)).setCell ⟨B, 6, none⟩ (.slice ad A.F.length cp)).setCell ⟨B, 7, none⟩ (.int .i64 A.code)) := by
  refine ⟨B, ad, cp, rfl, put8_block hrow _ _ _ _ _ _ _ _, ?_, hS _ _ hq (put8_below hb hB _ _ _ _ _ _ _ _)⟩
  by_cases hF : A.F = []
  · exact Or.inl ⟨ad, cp, by rw [hF]; rfl, hF⟩
  · exact hh.same fun g hg => put8_other (hne hF g hg) _ _ _ _ _ _ _ _
theorem ext_new {S : World → Prop} (hS : ∀ a b, S a → Below a.heap.size a b → S b) {A : Ans} {q W : World} {ad : Option Addr} {cp : Nat} (hq : S q) (hb : Below q.heap.size q W) (hh : HoldsF W (.slice ad A.F.length cp) A.F) :
    Ext S A (.pointer (some ⟨W.heap.size, 0, none⟩)) (W.alloc (.cells #[.bool A.wide, .int .i64 A.x, .bool A.inn, .bool A.esc, .bool A.long, .string A.text, .slice ad A.F.length cp, .int .i64 A.code] 41)) :=
  ⟨W.heap.size, ad, cp, rfl, heap_alloc_last W _, hh.below ((Below.refl _ _).alloc (Nat.le_refl _) _), hS _ _ hq (hb.alloc hb.size _)⟩
theorem FrS.keep {w : World} {dB yB zB : Nat} {D Y Z : Obj} {v1 v2 : Value} {F : List Hd.Fd} : ∀ a b, FrS w dB yB zB D Y Z v1 v2 F a → Below a.heap.size a b → FrS w dB yB zB D Y Z v1 v2 F b := fun _ _ h hb => h.new hb
/-- What S says, and one answer more, as memory holds it. -/
structure FrT (S : World → Prop) (aB : Nat) (R : Obj) (v : Value) (F : List Hd.Fd) (wx : World) : Prop where
  s : S wx
  a : wx.heap[aB]? = some R
  h : HoldsF wx v F
theorem FrT.keep {S : World → Prop} (hS : ∀ a b, S a → Below a.heap.size a b → S b) {aB : Nat} {R : Obj} {v : Value} {F : List Hd.Fd} : ∀ a b, FrT S aB R v F a → Below a.heap.size a b → FrT S aB R v F b :=
  fun a b h hb => ⟨hS a b h.s hb, (hb.block aB (Array.getElem?_eq_some_iff.1 h.a).1).trans h.a, h.h.below hb⟩
/-- A fact that no step of a walk takes by itself. -/
structure Kept (p : Prop) : Prop where
  out : p
set_option maxHeartbeats 40000000 in
set_option maxRecDepth 100000 in
/-- The law's first part: what is left to be shown behind it. -/
noncomputable def lawFrA (w : World) (a1 a2 : Option Addr) (n1 n2 cap1 cap2 : Nat) (h1 : n1 ≤ maxLen) (h2 : n2 ≤ maxLen) (HD : Hid (Dat w w.heap.size (.slice a1 n1 cap1) n1 ∧ Dat w w.heap.size (.slice a2 n2 cap2) n2 ∧ Lib.Utf8Tabs 1 2 w)) (hl1 : n1 ≤ 1048576) (hl2 : n2 ≤ 1048576) :
    { R : Prop // Kept R → Calls Tryd.prog 4 #[.slice a1 n1 cap1, .slice a2 n2 cap2] w fun e w' => e = .returned (.bool true) ∧ Below w.heap.size w w' } := by
  apply Subtype.mk
  case property =>
  intro hR
  obtain ⟨hD1, hD2, hT⟩ := unhide HD
  have c1 := drawFrame w (.slice a1 n1 cap1) n1 h1 hD1
  have HT := hide fun v (hv : Below w.heap.size w v) => Utf8Tabs_below hT hv
  have CD2 := hide fun v (hv : Below w.heap.size w v) => drawDeframe defrWord v (.slice a2 n2 cap2) n2 h2 ((hD2.below hv).mono hv.size)
  have CLW := hide fun v (hv : Below w.heap.size w v) (m : Nat) (hm : m ≤ 402) => lwAt v w.heap.size (.slice a1 n1 cap1) n1 0 (m + 1) (by decide) (by omega) h1 (hD1.below hv)
  clear hD1 hD2 hT
  have d1 : ¬ ((1048576 : Int) < (n1 : Int)) := by omega
  have d2 : ¬ ((1048576 : Int) < (n2 : Int)) := by omega
  go_enter Tryd.func4, Tryd.ntmps4
  go_wp2_with fail
  refine c1.mono ?_
  rintro e w1 ⟨t, x, b, rfl, hts, hb1⟩
  have htm : t.size ≤ maxLen := by unfold maxLen; omega
  have hfs := frame_sz t x b
  have CIF := hide fun v (hv : Below w.heap.size w v) => implFrameAll t x b v htm (unhide HT v hv)
  have CSF := hide fun v => specFrameAll t x b v htm
  have CIS := hide fun v => implStuffAll t x v htm
  have CSS := hide fun v => specStuffAll t x v htm
  have CID := hide fun v (hv : Below w.heap.size w v) => implDefrAll b x false false false ⟨#[]⟩ (frameV t x b) v (Nat.zero_le _) (by unfold maxLen; omega) (unhide HT v hv)
  have HFA := hide (frame_ans t x b)
  have HPL : Hid (∀ a : Nat, a < 4294967296 → x = a → ∀ (k : Nat) (hk : k < (stuffV t x).size), PlainC a (stuffV t x)[k]) := hide (by
    rintro a ha rfl k hk
    exact stuffV_plain (t := t) ha k hk)
  have hss : (stuffV t x).size ≤ 602 := by
    unfold stuffV
    split
    · have := stuff_sz x.toNat t
      omega
    · exact Nat.zero_le _
  generalize frameV t x b = f at *
  generalize stuffV t x = sv at *
  clear c1 htm
  go_wp2_with fail
  refine (unhide CIF _ hb1).mono ?_
  rintro e w2 ⟨rfl, hb2⟩
  have hB2 := hb1.trans (hb2.mono hb1.size)
  go_wp2_with fail
  refine (unhide CSF _).mono ?_
  rintro e w3 ⟨rfl, hb3⟩
  have hB3 := hB2.trans (hb3.mono hB2.size)
  go_wp2_with fail
  refine (unhide CIS _).mono ?_
  rintro e w4 ⟨rfl, hb4⟩
  have hB4 := hB3.trans (hb4.mono hB3.size)
  go_wp2_with fail
  refine (unhide CSS _).mono ?_
  rintro e w5 ⟨rfl, hb5⟩
  have hB5 := hB4.trans (hb5.mono hB4.size)
  clear hb1 hb2 hb3 hb4 hb5 hB2 hB3 hB4 CIF CSF CSS
  go_upto_if 55 with fail
  generalize hq : (!f.toList.isEmpty) = q
  go_cut [] (fun wx => Below w.heap.size w wx)
  case first =>
    cases q
    · go_wp2_with fail
      go_meet
      exact hB5
    · have hf : f ≠ ⟨#[]⟩ := fun e => by
        rw [e, ByteArray.toList_eq] at hq
        cases hq
      clear hq
      obtain ⟨hF, hC, ht3, hx⟩ := unhide HFA hf
      obtain ⟨a, rfl, ha⟩ := accOk_get hx
      have HP := hide fun k hk => unhide HPL a ha rfl k hk
      clear HPL HFA CD2 CLW
      go_wp2_with fail
      refine (unhide CIS _).mono ?_
      rintro e w6 ⟨rfl, hb6⟩
      have hB6 := hB5.trans (hb6.mono hB5.size)
      clear hB5 hb6 CIS
      go_wp2_with fail
      go_loopw [10] (fun y wr => ∃ i : Nat, i ≤ sv.size ∧ y = .int .i64 i ∧ Below w.heap.size w wr) (fun y _ => sv.size - (intOf y).toNat)
      case atStart => exact ⟨0, Nat.zero_le _, rfl, hB6⟩
      case round =>
        obtain ⟨i, hi, rfl, hbr⟩ := hrel
        clear hB6
        by_cases hlt : i < sv.size
        · have l1 : (i : Int) < (sv.size : Int) := by omega
          obtain ⟨p1, p2⟩ := unhide HP i hlt
          have hc := (sv[i]'hlt).toNat_lt
          rcases p2 with p2 | ⟨p2, p3⟩
          case' inr =>
            have hc2 : (sv[i]'hlt).toNat < 32 := by have := of_decide_eq_true p2; omega
            have p4 : (bits .and .i64 ((a : Int) / 2 ^ min (sv[i]'hlt).toNat 64) 1 == 1) = false := by
              rw [Nat.min_eq_left (by omega)]
              exact p3
            clear hc2
          all_goals
            go_wp2_with fail
            go_roundw
            case rel => exact ⟨i + 1, by omega, by go_num, hbr⟩
            case measure => simp [intOf]; omega
        · have l1 : ¬ ((i : Int) < (sv.size : Int)) := by omega
          clear HP
          go_wp2_with fail
          refine (unhide CID _ hbr).mono ?_
          rintro e w7 ⟨v, rfl, ⟨hv, _⟩, hb7⟩
          have hB7 := hbr.trans (hb7.mono hbr.size)
          have hw7 := hb7.size
          generalize ansOf b a false false false ⟨#[]⟩ f = A at *
          obtain ⟨Aw, Ax, Ai, Ae, Al, At, AF, Ac⟩ := A
          dsimp only at hF hC hv ⊢
          subst hF hC
          dsimp only [ansV]
          rcases hv with ⟨_, _, _, e⟩ | ⟨g, cp, cur, rfl, hg, hg2, hg3⟩
          · cases e
          · have hlg : g < w7.heap.size := (Array.getElem?_eq_some_iff.1 hg).1
            have q0 : cur[0]? = some (.int .i64 1) := hg3 0 (Nat.succ_pos 1)
            have q1 : cur[1]? = some (.string t) := hg3 1 (Nat.lt_succ_self 1)
            clear hg2 hg3 CID
            go_upto_region 15 with fail
            refine gen_world (fun q => q.heap[w7.heap.size]? = some (.cells #[.bool Aw, .int .i64 Ax, .bool Ai, .bool Ae, .bool Al, .string At, .slice (some ⟨g, 0, none⟩) 1 cp, .int .i64 0] 41) ∧ q.heap[g]? = some (.cells cur 44) ∧ Below w.heap.size w q)
              ⟨heap_alloc_new w7 _, (Below.heap_alloc _ _ _ hlg).trans hg, hB7.alloc hB7.size _⟩ ?_
            rintro q ⟨hx8, hgq, hBq⟩
            obtain ⟨o0, o1, o2, o3, o4, o5, o6, o7, _, _, _, _, _, _, _, _⟩ := row8s hx8
            have k0 : q.cell? ⟨g, 0, none⟩ = some (.int .i64 1) := by rw [cell_of_row _ _ _ _ _ _ hgq]; exact q0
            have k1 : q.cell? ⟨g, 1, none⟩ = some (.string t) := by rw [cell_of_row _ _ _ _ _ _ hgq]; exact q1
            generalize w7.heap.size = B8 at *
            clear hx8 hgq q0 q1 hg hB7
            go_wp2_with fail
            go_meet
            exact hBq
  case rest =>
    clear hss hfs CIS CID HFA HPL hB5 hq
    go_upto_region 17 with fail
    rename_i QQ KK aK
    clear HT CD2 CLW hts
    revert t x b f wc u4 u9 u10 u11 u21 u22 u23 u24 u25 u26 u27 u28 u29 u30 u31 u32 u33 u34 u35 u36 u37 u38 u39 u40 u41 u42 u43 u44 u45 u46 u47 u48 u49 u50 u51 u52 u53 u54 u55 u56 u57 u58 u59 u60 u61 u62 u63 u64 u65 u66 u67 u68 u69 u70 u71 u72 u73 u74 u75 u76 u77 u78 u79 u80 u81 u82 u83 u84 u85 u86 u87 u88 u89 u90 u91 u92 u93 u94 u95 u96 u97 u98 u99 u100 u101 u102 u103 u104 u105 u106 u107 u108 u109 u110 u111 u112 u113 u114 u115 u116 u117 u118 u119 u120 u121 u122 u123 u124 u125 u126 u127 u128 u129 u130 u131 u132 u133 u134 u135 u136 u137 u138 u139 u140 u141 u142 u143 u144 u145 u146 u147 u148 u149 u150 u151 u152 u153 u154 u155 u156 u157 u158 u159 u160 u161 u162 u163 u164 u165 u166 u167 u168 u169 u170 u171 u172 u173 u174 u175 u176 u177 u178 u179 u180 u181 u182 u183 u184 u185 u186 u187 u188 u189 u190 u191 u192 u193 u194 u195 u196 u197 u198 u199 u200 u201 u202 u203 u204 u205 u206 u207 u208 u209 u210 u211 u212 u213 u214 u215 u216 u217 u218 u219 u220 u221 u222 u223 u224 hcut KK aK
    exact hR.out
end Go.Proofs.YtillpfcldehfdaaDoor
