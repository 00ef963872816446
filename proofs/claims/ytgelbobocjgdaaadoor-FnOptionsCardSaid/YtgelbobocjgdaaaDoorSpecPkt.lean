/- PacketRead, the model's: of any text what is read, and a code; what lay in memory stands. -/
import Derived.Test.YtgelbobocjgdaaaDoorPktOf
import Derived.Test.YtgelbobocjgdaaaDoorStrO
namespace Go.Proofs.YtgelbobocjgdaaaDoor
open Go.RowKit
set_option maxHeartbeats 4000000 in
theorem specPktRead (t : ByteArray) (w : World) (ht : t.size ≤ maxLen) :
    Calls Tryd.prog 39 #[.string t] w fun e w' => e = .returned (poV (Op.pread t.data.toList)) ∧ Below w.heap.size w w' := by
  unfold maxLen at ht
  by_cases h8 : t.size ≤ 8000
  · have d0 : ¬ ((8000 : Int) < (t.size : Int)) := by omega
    by_cases h4 : 4 ≤ t.size
    · have d1 : ¬ ((t.size : Int) < 4) := by omega
      have hl := four_of h4
      have hlen : (t.data.toList.drop 4).length = t.size - 4 := by rw [List.length_drop, len_dat]
      have HX := hide fun n => txt_ext t 4 n
      obtain ⟨a, ha⟩ : ∃ c, t[0] = c := ⟨_, rfl⟩
      obtain ⟨b, hb⟩ : ∃ c, t[1] = c := ⟨_, rfl⟩
      obtain ⟨c, hc⟩ : ∃ c, t[2] = c := ⟨_, rfl⟩
      obtain ⟨d, hd⟩ : ∃ c, t[3] = c := ⟨_, rfl⟩
      rw [ha, hb, hc, hd] at hl
      rw [hl]
      generalize t.data.toList.drop 4 = r at *
      have i0 : (0 : Int) < (t.size : Int) := by omega
      have i1 : (1 : Int) < (t.size : Int) := by omega
      have i2 : (2 : Int) < (t.size : Int) := by omega
      have i3 : (3 : Int) < (t.size : Int) := by omega
      have hlc := c.toNat_lt
      have hld := d.toNat_lt
      have hla := a.toNat_lt
      have hlb := b.toNat_lt
      have hr8 : r.length + 4 ≤ 8000 := by omega
      have hbd := Op.pread_bad (a := a) (b := b) (c := c) (d := d) (r := r) hr8
      have hgd := Op.pread_good (a := a) (b := b) (c := c) (d := d) (r := r) hr8
      obtain ⟨N, hN⟩ : ∃ N : Nat, 256 * c.toNat + d.toNat = N := ⟨_, rfl⟩
      have HN : Hid (256 * (c.toNat : Int) + (d.toNat : Int) = (N : Int)) := hide (by omega)
      have hN6 : N < 65536 := by omega
      rw [hN] at hbd hgd
      have HBD := hide hbd
      have HGD := hide hgd
      have wm := wMul
      have wa := wU8
      have ws := wSum
      clear hl hN hbd hgd
      go_enter Tryd.func39, Tryd.ntmps39
      go_upto_region 5 with fail
      go_cut [3] (fun v wx => v = .int .i64 (N : Int) ∧ wx.heap[w.heap.size]? = some (.cells #[.int .i64 0, .int .i64 0, .string ⟨#[]⟩, .int .i64 0] 62) ∧ Below w.heap.size w wx)
      case first =>
        go_quiet (fail)
        go_wp2_with fail
        go_meet
        have hb0 : Below w.heap.size w (w.alloc (.cells #[.int .i64 0, .int .i64 0, .string ⟨#[]⟩, .int .i64 0] 62)) := (Below.refl _ _).alloc (Nat.le_refl _) _
        exact ⟨by rw [unhide HN], heap_alloc_new w _, ⟨hb0.os, hb0.tape, hb0.output, hb0.size, hb0.block⟩⟩
      case rest =>
        obtain ⟨hu3, hO, hbc⟩ := hcut
        subst hu3
        obtain ⟨o0, o1, o2, o3, p0, p1, p2, p3⟩ := row4f hO
        have HO := hide hO
        clear hO ws wm HN
        have hsz : t.size = r.length + 4 := by omega
        have FIN := hide fun x0 x1 x2 x3 => load4 (set4_at (unhide HO) x0 x1 x2 x3)
        by_cases c1 : N < 4
        · have e1 : decide ((N : Int) < 4) = true := decide_eq_true (by omega)
          have HR := hide (unhide HBD (Or.inl c1))
          clear HBD HGD c1 hsz hN6
          go_wp2
          refine bodyPost_ret (v := poV (Op.no 3)) (by simp [results, Tryd.results39, asAddr, unhide FIN, poV, Op.no]) rfl ⟨by rw [unhide HR], ?_⟩
          exact (((hbc.setCell (p := ⟨w.heap.size, 0, none⟩) (Nat.le_refl _) _).setCell (p := ⟨w.heap.size, 1, none⟩) (Nat.le_refl _) _).setCell (p := ⟨w.heap.size, 2, none⟩) (Nat.le_refl _) _).setCell (p := ⟨w.heap.size, 3, none⟩) (Nat.le_refl _) _
        · have e1 : decide ((N : Int) < 4) = false := decide_eq_false (by omega)
          by_cases c2 : 254 < N
          · have e2 : decide ((254 : Int) < (N : Int)) = true := decide_eq_true (by omega)
            have HR := hide (unhide HBD (Or.inr (Or.inl c2)))
            clear HBD HGD c1 c2 hsz hN6
            go_wp2
            refine bodyPost_ret (v := poV (Op.no 3)) (by simp [results, Tryd.results39, asAddr, unhide FIN, poV, Op.no]) rfl ⟨by rw [unhide HR], ?_⟩
            exact (((hbc.setCell (p := ⟨w.heap.size, 0, none⟩) (Nat.le_refl _) _).setCell (p := ⟨w.heap.size, 1, none⟩) (Nat.le_refl _) _).setCell (p := ⟨w.heap.size, 2, none⟩) (Nat.le_refl _) _).setCell (p := ⟨w.heap.size, 3, none⟩) (Nat.le_refl _) _
          · have e2 : decide ((254 : Int) < (N : Int)) = false := decide_eq_false (by omega)
            by_cases c3 : r.length + 4 < N
            · have e3 : (t.size : Int) < (N : Int) := by omega
              have HR := hide (unhide HBD (Or.inr (Or.inr c3)))
              clear HBD HGD c1 c2 c3 hsz hN6
              go_wp2
              refine bodyPost_ret (v := poV (Op.no 3)) (by simp [results, Tryd.results39, asAddr, unhide FIN, poV, Op.no]) rfl ⟨by rw [unhide HR], ?_⟩
              exact (((hbc.setCell (p := ⟨w.heap.size, 0, none⟩) (Nat.le_refl _) _).setCell (p := ⟨w.heap.size, 1, none⟩) (Nat.le_refl _) _).setCell (p := ⟨w.heap.size, 2, none⟩) (Nat.le_refl _) _).setCell (p := ⟨w.heap.size, 3, none⟩) (Nat.le_refl _) _
            · have e3 : ¬ ((t.size : Int) < (N : Int)) := by omega
              have HR := hide (unhide HGD (by omega))
              have s1 : (4 : Int) ≤ (N : Int) := by omega
              have s2 : (N : Int) ≤ (t.size : Int) := by omega
              have FIN := hide fun x0 x1 x2 x3 => load4 (W := ((((wc.setCell ⟨w.heap.size, 0, none⟩ x0).setCell ⟨w.heap.size, 1, none⟩ x1).setCell ⟨w.heap.size, 2, none⟩ x2).setCell ⟨w.heap.size, 3, none⟩ x3).drew) (set4_at (unhide HO) x0 x1 x2 x3)
              have hx := unhide HX N
              generalize txt (r.take (N - 4)) = T at *
              clear HBD HGD c1 c2 c3 hsz hN6
              go_wp2_with fail
              go_region
              go_wp2
              refine bodyPost_ret (v := poV ⟨⟨(a.toNat : Int), (b.toNat : Int), T⟩, 0⟩) (by simp [results, Tryd.results39, asAddr, unhide FIN, poV]) rfl ⟨by rw [unhide HR], ?_⟩
              exact ((((hbc.setCell (p := ⟨w.heap.size, 0, none⟩) (Nat.le_refl _) _).setCell (p := ⟨w.heap.size, 1, none⟩) (Nat.le_refl _) _).setCell (p := ⟨w.heap.size, 2, none⟩) (Nat.le_refl _) _).setCell (p := ⟨w.heap.size, 3, none⟩) (Nat.le_refl _) _).drew
    · have d1 : (t.size : Int) < 4 := by omega
      rw [Op.pread_short (by rw [len_dat]; omega)]
      go_enter Tryd.func39, Tryd.ntmps39
      go_wp2
      refine bodyPost_ret (v := poV (Op.no 4)) ?_ rfl ⟨rfl, (Below.refl _ _).alloc (Nat.le_refl _) _⟩
      simp [results, Tryd.results39, go_sem, poV, Op.no]
  · have d0 : (8000 : Int) < (t.size : Int) := by omega
    rw [Op.pread_long (by rw [len_dat]; omega)]
    go_enter Tryd.func39, Tryd.ntmps39
    go_wp2
    refine bodyPost_ret (v := poV (Op.no 2)) ?_ rfl ⟨rfl, (Below.refl _ _).alloc (Nat.le_refl _) _⟩
    simp [results, Tryd.results39, go_sem, poV, Op.no]
end Go.Proofs.YtgelbobocjgdaaaDoor
