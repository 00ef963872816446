/- The parts of a reading, the program's: a single byte, a count of one byte or of two, and the text; only the reading and the row of its single bytes are turned. -/
import Derived.Test.YtgelbobocjgdaaaDoorTake
namespace Go.Proofs.YtgelbobocjgdaaaDoor
open Go.RowKit
/-- Of what lies below N the block R alone has turned. -/
structure Off (N R : Nat) (w w' : World) : Prop where
  os : w'.os = w.os
  tape : w'.tape = w.tape
  output : w'.output = w.output
  size : w.heap.size ≤ w'.heap.size
  block : ∀ k, k < N → k ≠ R → w'.heap[k]? = w.heap[k]?
theorem Off.refl (N R : Nat) (w : World) : Off N R w w := ⟨rfl, rfl, rfl, Nat.le_refl _, fun _ _ _ => rfl⟩
theorem Off.trans {N R : Nat} {a b c : World} (h : Off N R a b) (k : Off N R b c) : Off N R a c :=
  ⟨k.os.trans h.os, k.tape.trans h.tape, k.output.trans h.output, Nat.le_trans h.size k.size, fun i hi hn => (k.block i hi hn).trans (h.block i hi hn)⟩
theorem Nr.off {N R : Nat} {w w' : World} (h : Nr R w w') (hN : N ≤ w.heap.size) : Off N R w w' := ⟨h.os, h.tape, h.output, h.size, fun k hk hn => h.block k (by omega) hn⟩
theorem Off.of_below {N R : Nat} {w w' : World} (h : Below N w w') : Off N R w w' := ⟨h.os, h.tape, h.output, h.size, fun k hk _ => h.block k hk⟩
theorem Off.below {N R n : Nat} {w w' : World} (h : Off N R w w') (h1 : n ≤ N) (h2 : n ≤ R) : Below n w w' := ⟨h.os, h.tape, h.output, h.size, fun k hk => h.block k (by omega) (by omega)⟩
theorem Off.setR {N R : Nat} {a w : World} (h : Off N R a w) (o : Nat) (v : Value) : Off N R a (w.setCell ⟨R, o, none⟩ v) := by
  have hb := (Below.refl 0 w).setCell (p := ⟨R, o, none⟩) (Nat.zero_le _) v
  exact ⟨hb.os.trans h.os, hb.tape.trans h.tape, hb.output.trans h.output, Nat.le_trans h.size hb.size, fun k hk hn => (Below.heap_setCell w ⟨R, o, none⟩ v k hn).trans (h.block k hk hn)⟩
theorem own_nr {w w' : World} {R base : Nat} {e : TypeId} {size : Nat} {v : Value} {n : Nat} {xs : List Value} (h : w.ownsRow base e size v n xs) (hn : Nr R w w') (hb : R < base) : w'.ownsRow base e size v n xs :=
  own_same h fun g h1 h2 => hn.block g h2 (by omega)
theorem i64info : ∃ i, Tryd.prog.info? 2 = some i ∧ i.zero = some (.int .i64 0) ∧ i.size = 1 ∧ i.bytes = 8 := by
  have h : (Tryd.prog.info? 2).map (fun i => (i.zero, i.size, i.bytes)) = some (some (.int .i64 0), 1, 8) := by kernel_rfl
  obtain ⟨i, hi, hzz⟩ := Option.map_eq_some_iff.1 h
  simp only [Prod.mk.injEq] at hzz
  exact ⟨i, hi, hzz.1, hzz.2.1, hzz.2.2⟩
theorem append_i64 {wr : World} {ops : Array Oper} {rest : List Oper} {o : Oper} {a : Act} {Q : Exit → Act → World → Prop} (hgd : o.guard = none) (s x : Operand)
    (ho : o.op = .call { callee := .builtin .append, args := #[s, x], argTypes := #[118, 118] })
    (base : Nat) (v : Value) (n : Nat) (L : List Value) (hs : a.eval s = v) (hown : wr.ownsRow base 2 1 v n L) (c : Int) (hx : a.eval x = .slice (some ⟨wr.heap.size, 0, none⟩) 1 1) (hlen : n ≤ 1000) (hbase : base ≤ wr.heap.size)
    (h : ∀ v' w', w'.ownsRow base 2 1 v' (n + 1) (L ++ [.int .i64 c]) → Below base wr w' → wpList Tryd.prog ops Q rest (a.put o.dst v') w') : wpList Tryd.prog ops Q (o :: rest) a (wr.alloc (.cells #[.int .i64 c] 2)) := by
  obtain ⟨ui, hi1, hi2, hi3, hi4⟩ := i64info
  refine wpList_append_own _ hgd s x 118 ho base 2 ui (.int .i64 0) 1 8 Tryd.underlying118 hi1 hi2 hi3 hi4 rfl (by decide) v n L hs (hown.alloc _) ⟨wr.heap.size, 0, none⟩ 1 1 [.int .i64 c] hx rfl ?_ ?_ ?_ ?_ ?_ ?_
  · intro i u hu
    rw [Addr.add_lit, Nat.zero_add, World.cell?_alloc_at _ _ _ _ rfl, ← hu]
    simp
  · intro u hu
    simp only [List.mem_singleton] at hu
    subst hu
    rfl
  · unfold maxLen; omega
  · omega
  · simp; omega
  · intro v' w2 hown2 hg2 _
    exact h v' w2 hown2 (((Below.refl _ _).alloc hbase _).grown hg2 (by simp; omega) (fun q hq => by exact (World.ownsRow.lt hown q hq).1))
/-- A reading: its rest, its single bytes, its count and its text. -/
def Rdg (w : World) (R N B : Nat) (p : Value) (ah ms lk : Int) (l : List UInt8) (ss : List Value) (ct : Int) (t : ByteArray) : Prop :=
  ∃ v s, w.heap[R]? = some (.cells #[p, .int .i64 ah, .int .i64 ms, .int .i64 lk, v, s, .int .i64 ct, .string t] 127) ∧ Rest w B v l ∧ w.ownsRow N 2 1 s ss.length ss
set_option maxHeartbeats 1000000 in
theorem single_any (R N B : Nat) (p : Value) (ah ms lk : Int) (l : List UInt8) (ss : List Value) (ct : Int) (t : ByteArray) (w : World) (hRN : R < N) (hBN : B < N) (hN : N ≤ w.heap.size) (hne : B ≠ R) (hss : ss.length ≤ 4)
    (h : Rdg w R N B p ah ms lk l ss ct t) :
    Calls Tryd.prog 101 #[.pointer (some ⟨R, 0, none⟩)] w fun e w' => Off N R w w' ∧ ((l = [] ∧ e = .returned (wrong lk)) ∨ ∃ c r, l = c :: r ∧ e = .returned .nilIface ∧ Rdg w' R N B p ah ms lk r (ss ++ [.int .i64 c.toNat]) ct t) := by
  obtain ⟨v, s, hR, hv, ho⟩ := h
  obtain ⟨sa, sc, hsf⟩ := own_form ho
  subst hsf
  rcases l with _ | ⟨c, r⟩
  · have C := hide (num_short R B 1 [] v lk p (.int .i64 ah) (.int .i64 ms) (.slice sa ss.length sc) (.int .i64 ct) (.string t) w (by simp) hv hR)
    have HR := hide hR
    have HO := hide ho
    clear hR ho hv
    go_enter Tryd.func101, Tryd.ntmps101
    go_wp2_with fail
    refine (unhide C).mono ?_
    rintro e w1 ⟨rfl, k, hk⟩
    have hn1 : Nr R w w1 := by rw [hk]; exact (Nr.refl _ _).drewN k
    have hR1 := (show w1.heap[R]? = w.heap[R]? by rw [hk]; rfl).trans (unhide HR)
    have hN1 := Nat.le_trans hN hn1.size
    obtain ⟨c0, c1, c2, c3, c4, c5, c6, c7, cf⟩ := rg8 hR1
    have HR1 := hide hR1
    have HO1 := hide (own_nr (unhide HO) hn1 hRN)
    clear C hk cf hR1
    go_wp2_with (first
      | (at_builtin; refine append_i64 rfl _ _ rfl N (.slice sa ss.length sc) ss.length ss rfl (unhide HO1) 0 rfl (by omega) hN1 ?_; rintro v2 w2 ho2 hb2; obtain ⟨va, vc, hv2⟩ := own_form ho2; subst hv2; have hR2 := (hb2.block R hRN).trans (unhide HR1); obtain ⟨e0, e1, e2, e3, e4, e5, e6, e7, ef⟩ := rg8 hR2; have hf2 := ef 5; clear ef hR2 ho2))
    go_ret
    exact ⟨((hn1.off hN).trans (Off.of_below hb2)).setR 5 _, Or.inl ⟨trivial, rfl⟩⟩
  · have C := hide (num_ok R B 1 (c :: r) v p (.int .i64 ah) (.int .i64 ms) (.int .i64 lk) (.slice sa ss.length sc) (.int .i64 ct) (.string t) w (by decide) (by simp) (by omega) hne hv hR)
    rw [show numOf (List.take 1 (c :: r)) = c.toNat by simp [numOf], show List.drop 1 (c :: r) = r from rfl] at C
    have HO := hide ho
    clear hR ho hv
    go_enter Tryd.func101, Tryd.ntmps101
    go_wp2_with fail
    refine (unhide C).mono ?_
    rintro e w1 ⟨rfl, v1, hR1, hv1, hn1⟩
    have hN1 := Nat.le_trans hN hn1.size
    obtain ⟨c0, c1, c2, c3, c4, c5, c6, c7, cf⟩ := rg8 hR1
    have HR1 := hide hR1
    have HV1 := hide hv1
    have HO1 := hide (own_nr (unhide HO) hn1 hRN)
    clear C cf hR1 hv1
    go_wp2_with (first
      | (at_builtin; refine append_i64 rfl _ _ rfl N (.slice sa ss.length sc) ss.length ss rfl (unhide HO1) c.toNat rfl (by omega) hN1 ?_; rintro v2 w2 ho2 hb2; obtain ⟨va, vc, hv2⟩ := own_form ho2; subst hv2; have hR2 := (hb2.block R hRN).trans (unhide HR1); obtain ⟨e0, e1, e2, e3, e4, e5, e6, e7, ef⟩ := rg8 hR2; have hf2 := ef 5; have HO2 := hide ho2; have HR2 := hide hR2; clear ef hR2 ho2))
    go_ret
    refine ⟨((hn1.off hN).trans (Off.of_below hb2)).setR 5 _, Or.inr ⟨c, r, rfl, rfl, v1, .slice va (ss.length + 1) vc, ?_, ?_, ?_⟩⟩
    · rw [heap_setCell_same _ _ 5 _ _ _ (unhide HR2)]; rfl
    · exact (unhide HV1).same ((Below.heap_setCell w2 ⟨R, 5, none⟩ _ B hne).trans (hb2.block B hBN))
    · rw [List.length_append]
      exact own_same (unhide HO2) fun g hg _ => Below.heap_setCell w2 ⟨R, 5, none⟩ _ g (by show g ≠ R; omega)
/-- Does a count not fit. -/
def bad (ah ms : Int) (n : Nat) (l : List UInt8) : Bool := decide ((n : Int) - ah < 0 ∨ ms < (n : Int) - ah ∨ (l.length : Int) < (n : Int) - ah)
theorem Rdg.nr {w w' : World} {R N B : Nat} {p : Value} {ah ms lk : Int} {l : List UInt8} {ss : List Value} {ct : Int} {t : ByteArray} (h : Rdg w R N B p ah ms lk l ss ct t) (h1 : w'.heap[R]? = w.heap[R]?) (h2 : Nr R w w') (hRN : R < N) (hB : B < w.heap.size) (hne : B ≠ R) : Rdg w' R N B p ah ms lk l ss ct t := by
  obtain ⟨v, s, e1, e2, e3⟩ := h
  exact ⟨v, s, h1.trans e1, e2.same (h2.block B hB hne), own_nr e3 h2 hRN⟩
set_option maxHeartbeats 2000000 in
theorem expect_any (R N B : Nat) (p : Value) (ah ms lk : Int) (l : List UInt8) (ss : List Value) (ct : Int) (t : ByteArray) (n : Nat) (w : World) (hRN : R < N) (hB : B < w.heap.size) (hne : B ≠ R) (hn : n ≤ 65535) (ha1 : 0 ≤ ah) (ha2 : ah ≤ 10)
    (h : Rdg w R N B p ah ms lk l ss ct t) :
    Calls Tryd.prog 109 #[.pointer (some ⟨R, 0, none⟩), .int .i64 n] w fun e w' => e = .returned (if bad ah ms n l = true then wrong 3 else .nilIface) ∧ Nr R w w' ∧ Rdg w' R N B p ah ms lk l ss ((n : Int) - ah) t := by
  obtain ⟨v, s, hR, hv, ho⟩ := h
  obtain ⟨off, cap, hvf, hcap, hl⟩ := hv
  subst hvf
  obtain ⟨c0, c1, c2, c3, c4, c5, c6, c7, cf⟩ := rg8 hR
  have hf := cf 6
  have HR := hide hR
  clear cf hR
  have HF : Hid (∀ w', w'.heap[R]? = some (.cells #[p, .int .i64 ah, .int .i64 ms, .int .i64 lk, .slice (some ⟨B, off, none⟩) l.length cap, s, .int .i64 ((n : Int) - ah), .string t] 127) → Nr R w w' → Rdg w' R N B p ah ms lk l ss ((n : Int) - ah) t) :=
    hide fun w' q1 q2 => ⟨_, s, q1, ⟨off, cap, rfl, hcap, hl.same (q2.block B hB hne)⟩, own_nr ho q2 hRN⟩
  have hb : (decide ((n : Int) - ah < 0) = true ∧ bad ah ms n l = true) ∨ (decide ((n : Int) - ah < 0) = false ∧ decide (ms < (n : Int) - ah) = true ∧ bad ah ms n l = true) ∨ (decide ((n : Int) - ah < 0) = false ∧ decide (ms < (n : Int) - ah) = false ∧ decide ((l.length : Int) < (n : Int) - ah) = true ∧ bad ah ms n l = true) ∨
      (decide ((n : Int) - ah < 0) = false ∧ decide (ms < (n : Int) - ah) = false ∧ decide ((l.length : Int) < (n : Int) - ah) = false ∧ bad ah ms n l = false) := by
    unfold bad
    by_cases h1 : (n : Int) - ah < 0
    · exact Or.inl ⟨decide_eq_true h1, decide_eq_true (Or.inl h1)⟩
    · by_cases h2 : ms < (n : Int) - ah
      · exact Or.inr (Or.inl ⟨decide_eq_false h1, decide_eq_true h2, decide_eq_true (Or.inr (Or.inl h2))⟩)
      · by_cases h3 : (l.length : Int) < (n : Int) - ah
        · exact Or.inr (Or.inr (Or.inl ⟨decide_eq_false h1, decide_eq_false h2, decide_eq_true h3, decide_eq_true (Or.inr (Or.inr h3))⟩))
        · exact Or.inr (Or.inr (Or.inr ⟨decide_eq_false h1, decide_eq_false h2, decide_eq_false h3, decide_eq_false (by omega)⟩))
  generalize bad ah ms n l = bd at *
  obtain ⟨X, hX⟩ : ∃ X : Int, (n : Int) - ah = X := ⟨_, rfl⟩
  have HX := hide hX
  have HB := hide hb
  rw [hX] at HB HF ⊢
  clear hb ho hl hX
  go_enter Tryd.func109, Tryd.ntmps109
  go_wp2_with fail
  refine gen_world (fun q => q.heap[R]? = some (.cells #[p, .int .i64 ah, .int .i64 ms, .int .i64 lk, .slice (some ⟨B, off, none⟩) l.length cap, s, .int .i64 X, .string t] 127) ∧ Nr R w q)
    ⟨by rw [heap_setCell_same _ _ 6 _ _ _ (unhide HR), unhide HX]; rfl, (Nr.refl _ _).setCell 6 _⟩ ?_
  clear c0 c1 c2 c3 c4 c5 c6 c7 hf HR HX
  rintro q ⟨hR, hnr⟩
  obtain ⟨c0, c1, c2, c3, c4, c5, c6, c7, cf⟩ := rg8 hR
  have HR := hide hR
  have hb := unhide HB
  clear cf hR HB
  rcases hb with ⟨e1, rfl⟩ | ⟨e1, e2, rfl⟩ | ⟨e1, e2, e3, rfl⟩ | ⟨e1, e2, e3, rfl⟩
  all_goals
    go_quiet (fail)
    go_wp2
    go_ret
    exact ⟨rfl, hnr.drewN _, unhide HF _ (unhide HR) (hnr.drewN _)⟩
end Go.Proofs.YtgelbobocjgdaaaDoor
