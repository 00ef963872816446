/- Options read off a text, the model's: all of them, and whether they are right; what lay in memory stands. -/
import Derived.Test.YtgelbobocjgdaaaDoorOptSp
import Derived.Test.YtgelbobocjgdaaaDoorStrO
import Derived.Deep.RegionHeld3
import Derived.Deep.AppendLies
namespace Go.Proofs.YtgelbobocjgdaaaDoor
open Go.RowKit
/-- What the model's reading of options answers. -/
def RdOut (w w' : World) (res : Option (List Op.Opt)) (e : Ending) : Prop :=
  (res = none ∧ e = .returned (.tuple #[.slice none 0 0, .bool false]) ∧ Below w.heap.size w w') ∨
    (∃ L ad cp, res = some L ∧ e = .returned (.tuple #[.slice ad L.length cp, .bool (Op.right L)]) ∧ w'.ownsRow w.heap.size 95 2 (.slice ad L.length cp) L.length (ocells L) ∧ Below w.heap.size w w')
/-- How long a text is. -/
def tlen : Value → Nat
  | .string t => t.size
  | _ => 0
theorem map_step {k n : UInt8} {r : List UInt8} {out : List Op.Opt} (h : ¬ (n.toNat < 2 ∨ r.length + 2 < n.toNat)) :
    (Op.rd (k :: n :: r)).map (out ++ ·) = (Op.rd (r.drop (n.toNat - 2))).map ((out ++ [⟨(k.toNat : Int), txt (r.take (n.toNat - 2))⟩]) ++ ·) := by
  rw [Op.rd_step h]
  cases Op.rd (r.drop (n.toNat - 2)) with
  | none => rfl
  | some L => simp
set_option maxHeartbeats 8000000 in
set_option maxRecDepth 100000 in
theorem specRead (t : ByteArray) (w : World) (h8 : t.size ≤ 8000) :
    Calls Tryd.prog 70 #[.string t] w fun e w' => RdOut w w' (Op.rd t.data.toList) e := by
  obtain ⟨i0, hi0, hz0, hz1, hz2⟩ := oinfo
  obtain ⟨RES, hRES⟩ : ∃ R, Op.rd t.data.toList = R := ⟨_, rfl⟩
  rw [hRES]
  have HRES := hide hRES
  clear hRES
  go_enter Tryd.func70, Tryd.ntmps70
  go_wp2_with fail
  go_loopw [0, 4] (fun x y wr => ∃ (u : ByteArray) (out : List Op.Opt), x = .string u ∧ u.size ≤ 8000 ∧ out.length * 2 + u.size ≤ 8000 ∧ (∃ a c, y = .slice a out.length c) ∧ wr.ownsRow w.heap.size 95 2 y out.length (ocells out) ∧ (Op.rd u.data.toList).map (out ++ ·) = RES ∧ Below w.heap.size w wr) (fun x _ _ => tlen x)
  case atStart =>
    refine ⟨t, [], rfl, h8, by simpa using h8, ⟨_, _, rfl⟩, World.ownsRow_lit w #[] 0 (by omega) (Nat.zero_le _) rfl, ?_, (Below.refl _ _).alloc (Nat.le_refl _) _⟩
    rw [← unhide HRES]
    cases Op.rd t.data.toList with
    | none => rfl
    | some L => rfl
  case round =>
    obtain ⟨u, out, rfl, hu8, hsum, ⟨ya, yc, rfl⟩, hown, hacc, hb⟩ := hrel
    have hbs := hb.size
    have HOW := hide hown
    clear hown HRES
    by_cases h0 : u.size = 0
    · have hnil : u.data.toList = [] := List.eq_nil_of_length_eq_zero (by rw [len_dat]; exact h0)
      rw [hnil, Op.rd_nil] at hacc
      have hacc' : RES = some out := by rw [← hacc]; simp
      have d1 : ¬ ((0 : Int) < (u.size : Int)) := by omega
      have C := hide (specRightAll _ out wr (by unfold maxLen; omega) (HoldsO.own (unhide HOW)))
      clear hacc hnil
      go_wp2_with (first | (go_at_call 29; refine (unhide C).mono ?_; rintro e w4 ⟨rfl, hb4⟩))
      go_ret2
      exact Or.inr ⟨out, _, _, hacc', rfl, own_same (unhide HOW) fun p _ hp => hb4.block p hp, hb.trans (hb4.mono hbs)⟩
    · have d1 : (0 : Int) < (u.size : Int) := by omega
      by_cases h1 : u.size < 2
      · have d2 : decide ((u.size : Int) < 2) = true := decide_eq_true (by omega)
        have hres : RES = none := by
          obtain ⟨c, hc⟩ : ∃ c, u.data.toList = [c] := by
            have hl := len_dat u
            rcases hq : u.data.toList with _ | ⟨c, _ | ⟨d, r⟩⟩
            · rw [hq] at hl; simp at hl; omega
            · exact ⟨c, rfl⟩
            · rw [hq] at hl; simp at hl; omega
          rw [hc, Op.rd_one] at hacc
          rw [← hacc]
          rfl
        clear hacc
        go_wp2
        go_ret2
        exact Or.inl ⟨hres, rfl, hb⟩
      · have d2 : decide ((u.size : Int) < 2) = false := decide_eq_false (by omega)
        have d2' : (1 : Int) < (u.size : Int) := by omega
        have htwo := two_of (t := u) (by omega)
        have hrl : (u.data.toList.drop 2).length = u.size - 2 := by rw [List.length_drop, len_dat]
        have HX := hide fun m n => txt_ext u m n
        have HE := hide fun n => txt_end u n
        obtain ⟨k, hk⟩ : ∃ c, u[0] = c := ⟨_, rfl⟩
        obtain ⟨n, hn⟩ : ∃ c, u[1] = c := ⟨_, rfl⟩
        rw [hk, hn] at htwo
        have hdd : ∀ m, 2 ≤ m → u.data.toList.drop m = (u.data.toList.drop 2).drop (m - 2) := fun m hm => by rw [List.drop_drop]; congr 1; omega
        have HDD := hide hdd
        rw [htwo] at hacc
        generalize hr : u.data.toList.drop 2 = r at *
        have wu := wU8a
        have wi := wI64a
        by_cases c1 : n.toNat < 2
        · have e1 : decide ((n.toNat : Int) < 2) = true := decide_eq_true (by omega)
          have hres : RES = none := by rw [← hacc, Op.rd_bad (Or.inl c1)]; rfl
          clear hacc htwo HDD hdd HX HE hr
          go_wp2
          go_ret2
          exact Or.inl ⟨hres, rfl, hb⟩
        · have e1 : decide ((n.toNat : Int) < 2) = false := decide_eq_false (by omega)
          have hnlt := n.toNat_lt
          by_cases c2 : r.length + 2 < n.toNat
          · have e2 : (u.size : Int) < (n.toNat : Int) := by omega
            have hres : RES = none := by rw [← hacc, Op.rd_bad (Or.inr c2)]; rfl
            clear hacc htwo HDD hdd HX HE hr
            go_wp2
            go_ret2
            exact Or.inl ⟨hres, rfl, hb⟩
          · have e2 : ¬ ((u.size : Int) < (n.toNat : Int)) := by omega
            have e3 : (2 : Int) ≤ (n.toNat : Int) := by omega
            have e4 : (n.toNat : Int) ≤ (u.size : Int) := by omega
            rw [map_step (by omega)] at hacc
            have HAC := hide hacc
            have hx := unhide HX 2 n.toNat
            have he := unhide HE n.toNat
            rw [unhide HDD n.toNat (by omega)] at he
            rw [hr] at hx
            have HL2 : Hid ((r.drop (n.toNat - 2)).length + n.toNat = u.size) := hide (by rw [List.length_drop]; omega)
            clear hacc htwo HDD hdd HX HE hr
            have i0' : (0 : Int) < (u.size : Int) := by omega
            generalize txt (r.take (n.toNat - 2)) = T at *
            obtain ⟨L2, hL2⟩ : ∃ L, r.drop (n.toNat - 2) = L := ⟨_, rfl⟩
            rw [hL2] at HAC HL2 he
            have lw : w.heap.size ≤ wr.heap.size := hbs
            have hol1 : out.length ≤ 4000 := by omega
            clear hL2
            go_wp2_with fail
            go_region_held3 (fun _ => True) (trivial)
              ((refine step_append_lies _ (by rfl) _ _ _ (by rfl) w.heap.size 95 i0 _ 2 24 Tryd.underlying48 hi0 hz0 hz1 hz2 rfl (by omega) (.slice ya out.length yc) out.length (ocells out) (by rfl) (((unhide HOW).alloc _).drew)
                  ⟨wr.heap.size, 0, none⟩ 1 1 [.int .i64 k.toNat, .string T] (by rfl) (by rfl) (World.news_of_block (cs := #[.int .i64 k.toNat, .string T]) (t := 95) (fr := (0, 0)) (heap_alloc_new wr _)) (by simp [Value.oneCell'])
                  (by omega) (by unfold maxLen; omega) (by omega) (by simp; omega) (wr.heap.size + 1) (by simp) ?_; intro gg cap3 w3 hown3 hgrow hat hlt))
            all_goals
              have hbw3 : Below w.heap.size w w3 := ((hb.alloc lw _).drew).grown hgrow (by simp; omega) (fun p hp => (World.ownsRow.lt (unhide HOW) p hp).1)
              have hoc : ocells out ++ [.int .i64 k.toNat, .string T] = ocells (out ++ [⟨(k.toNat : Int), T⟩]) := by rw [ocells_append]; rfl
              rw [hoc] at hown3
              have HO3 := hide hown3
              clear hown3 hgrow hat hoc HOW
              go_wp2
              go_roundw
              case rel =>
                refine ⟨txt L2, out ++ [⟨(k.toNat : Int), T⟩], rfl, ?_, ?_, ⟨some ⟨gg, 0, none⟩, cap3, by simp⟩, by simpa using unhide HO3, by rw [data_txt]; exact unhide HAC, hbw3⟩
                · have := unhide HL2
                  rw [txt_size]
                  omega
                · have := unhide HL2
                  rw [txt_size]
                  simp
                  omega
              case measure =>
                have := unhide HL2
                simp [tlen, txt_size]
                omega
end Go.Proofs.YtgelbobocjgdaaaDoor
