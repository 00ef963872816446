/- A number's bytes, the highest first: the program's numberBytes at none, one, two and four bytes, the model's l05Put at two and four; what lay in memory stands. What each rule asks of a Config; what lay in memory stands. An option put behind a row of options that the call made; no condition but those named. The program's Ask; what lay in memory stands, and the answer is a row of its own. -/
import Derived.Test.YtghopihgnmnlcaaGreatDoorS00
import Derived.Deep.OwnRows
import Derived.Test.YtghopihgnmnlcaaGreatDoorS04
import Derived.Test.YtghopihgnmnlcaaGreatDoorS03
import Derived.Test.YtghopihgnmnlcaaGreatDoorS05
import Derived.Deep.DeepCutAuto
namespace Go.Proofs.YtghopihgnmnlcaaGreatDoor
open Go.RowKit
theorem info_u8 : (Tryz.prog.info? 5).map (fun i => (i.zero, i.size, i.bytes)) = some (some (.int .u8 0), 1, 1) := by kernel_rfl
theorem made0 : madeCells #[Value.int .u8 0] 0 = #[] := by kernel_rfl
theorem made1 : madeCells #[Value.int .u8 0] 1 = #[.int .u8 0] := by kernel_rfl
theorem made2 : madeCells #[Value.int .u8 0] 2 = #[.int .u8 0, .int .u8 0] := by kernel_rfl
theorem made4 : madeCells #[Value.int .u8 0] 4 = #[.int .u8 0, .int .u8 0, .int .u8 0, .int .u8 0] := by kernel_rfl
theorem make0 (w : World) : (Instr.makeSlice 22 (.int .i64 0) (.int .i64 0)).run Tryz.prog w = .ok (.slice (some ⟨w.heap.size, 0, none⟩) 0 0) (w.alloc (.cells #[] 5)) :=
  made0 ▸ run_make_row' (P := Tryz.prog) 22 5 (.int .u8 0) 1 Tryz.underlying22 info_u8 rfl .i64 .i64 0 (by decide) (by decide) w
theorem make1 (w : World) : (Instr.makeSlice 22 (.int .i64 1) (.int .i64 1)).run Tryz.prog w = .ok (.slice (some ⟨w.heap.size, 0, none⟩) 1 1) (w.alloc (.cells #[.int .u8 0] 5)) :=
  made1 ▸ run_make_row' (P := Tryz.prog) 22 5 (.int .u8 0) 1 Tryz.underlying22 info_u8 rfl .i64 .i64 1 (by decide) (by decide) w
theorem make2 (w : World) : (Instr.makeSlice 22 (.int .i64 2) (.int .i64 2)).run Tryz.prog w = .ok (.slice (some ⟨w.heap.size, 0, none⟩) 2 2) (w.alloc (.cells #[.int .u8 0, .int .u8 0] 5)) :=
  made2 ▸ run_make_row' (P := Tryz.prog) 22 5 (.int .u8 0) 1 Tryz.underlying22 info_u8 rfl .i64 .i64 2 (by decide) (by decide) w
theorem make4 (w : World) : (Instr.makeSlice 22 (.int .i64 4) (.int .i64 4)).run Tryz.prog w = .ok (.slice (some ⟨w.heap.size, 0, none⟩) 4 4) (w.alloc (.cells #[.int .u8 0, .int .u8 0, .int .u8 0, .int .u8 0] 5)) :=
  made4 ▸ run_make_row' (P := Tryz.prog) 22 5 (.int .u8 0) 1 Tryz.underlying22 info_u8 rfl .i64 .i64 4 (by decide) (by decide) w
theorem conv0 (w : World) : (convert 22 9 (.slice (some ⟨w.heap.size, 0, none⟩) 0 0)).run Tryz.prog (w.alloc (.cells #[] 5)) = .ok (.string (strOfNums [])) (w.alloc (.cells #[] 5)) :=
  run_convert_bytes_arg (P := Tryz.prog) _ 22 5 Tryz.underlying22 Tryz.underlying5 w.heap.size 0 0 0 [] rfl (fun i hi => by cases hi) 9 Tryz.underlying9
theorem conv1 (w : World) (a : Int) : (convert 22 9 (.slice (some ⟨w.heap.size, 0, none⟩) 1 1)).run Tryz.prog (w.alloc (.cells #[.int .u8 a] 5)) = .ok (.string (strOfNums [a])) (w.alloc (.cells #[.int .u8 a] 5)) :=
  run_convert_bytes_arg (P := Tryz.prog) _ 22 5 Tryz.underlying22 Tryz.underlying5 w.heap.size 0 1 1 [a] rfl (fun i hi => by
    rw [World.cell?_alloc_at _ _ _ _ (by simp)]
    match i, hi with
    | 0, _ => rfl) 9 Tryz.underlying9
theorem conv2 (w : World) (a b : Int) : (convert 22 9 (.slice (some ⟨w.heap.size, 0, none⟩) 2 2)).run Tryz.prog (w.alloc (.cells #[.int .u8 a, .int .u8 b] 5)) = .ok (.string (strOfNums [a, b])) (w.alloc (.cells #[.int .u8 a, .int .u8 b] 5)) :=
  run_convert_bytes_arg (P := Tryz.prog) _ 22 5 Tryz.underlying22 Tryz.underlying5 w.heap.size 0 2 2 [a, b] rfl (fun i hi => by
    rw [World.cell?_alloc_at _ _ _ _ (by simp)]
    match i, hi with
    | 0, _ => rfl
    | 1, _ => rfl) 9 Tryz.underlying9
theorem conv4 (w : World) (a b c d : Int) : (convert 22 9 (.slice (some ⟨w.heap.size, 0, none⟩) 4 4)).run Tryz.prog (w.alloc (.cells #[.int .u8 a, .int .u8 b, .int .u8 c, .int .u8 d] 5)) = .ok (.string (strOfNums [a, b, c, d])) (w.alloc (.cells #[.int .u8 a, .int .u8 b, .int .u8 c, .int .u8 d] 5)) :=
  run_convert_bytes_arg (P := Tryz.prog) _ 22 5 Tryz.underlying22 Tryz.underlying5 w.heap.size 0 4 4 [a, b, c, d] rfl (fun i hi => by
    rw [World.cell?_alloc_at _ _ _ _ (by simp)]
    match i, hi with
    | 0, _ => rfl
    | 1, _ => rfl
    | 2, _ => rfl
    | 3, _ => rfl) 9 Tryz.underlying9
/-- A number's bytes: so many, the highest first. -/
def put1 (n : Nat) : ByteArray := strOfNums [(n : Int) % 256]
def put2 (n : Nat) : ByteArray := strOfNums [(n : Int) / 256 % 256, (n : Int) % 256]
def put4 (n : Nat) : ByteArray := strOfNums [(n : Int) / 16777216 % 256, (n : Int) / 65536 % 256, (n : Int) / 256 % 256, (n : Int) % 256]
set_option maxHeartbeats 400000 in
theorem num0 (n : Nat) (w : World) : Calls Tryz.prog 213 #[.int .i64 n, .int .i64 0] w fun e w' => e = .returned (.string ⟨#[]⟩) ∧ Below w.heap.size w w' := by
  have hm := make0
  have hc := conv0 w
  go_enter Tryz.func213, Tryz.ntmps213
  go_wp2_with fail
  go_rounds 1
  go_ret
  exact ⟨rfl, (Below.refl _ _).alloc (Nat.le_refl _) _⟩
set_option maxHeartbeats 400000 in
theorem num1 (n : Nat) (w : World) : Calls Tryz.prog 213 #[.int .i64 n, .int .i64 1] w fun e w' => e = .returned (.string (put1 n)) ∧ Below w.heap.size w w' := by
  have hm := make1
  have hc := conv1 w
  unfold put1
  go_enter Tryz.func213, Tryz.ntmps213
  go_wp2_with fail
  go_rounds 2
  go_ret
  exact ⟨rfl, (Below.refl _ _).alloc (Nat.le_refl _) _⟩
set_option maxHeartbeats 400000 in
theorem num2 (n : Nat) (w : World) : Calls Tryz.prog 213 #[.int .i64 n, .int .i64 2] w fun e w' => e = .returned (.string (put2 n)) ∧ Below w.heap.size w w' := by
  have hm := make2
  have hc := conv2 w
  unfold put2
  go_enter Tryz.func213, Tryz.ntmps213
  go_wp2_with fail
  go_rounds 3
  go_ret
  exact ⟨rfl, (Below.refl _ _).alloc (Nat.le_refl _) _⟩
set_option maxHeartbeats 400000 in
theorem num4 (n : Nat) (w : World) : Calls Tryz.prog 213 #[.int .i64 n, .int .i64 4] w fun e w' => e = .returned (.string (put4 n)) ∧ Below w.heap.size w w' := by
  have hm := make4
  have hc := conv4 w
  unfold put4
  go_enter Tryz.func213, Tryz.ntmps213
  go_wp2_with fail
  go_rounds 5
  go_ret
  exact ⟨rfl, (Below.refl _ _).alloc (Nat.le_refl _) _⟩
set_option maxHeartbeats 400000 in
theorem sput2 (n : Nat) (w : World) : Calls Tryz.prog 108 #[.int .i64 n, .int .i64 2] w fun e w' => e = .returned (.string (put2 n)) ∧ Below w.heap.size w w' := by
  have hm := make2
  have hc := conv2 w
  unfold put2
  go_enter Tryz.func108, Tryz.ntmps108
  go_wp2_with fail
  go_rounds 3
  go_ret
  exact ⟨rfl, (Below.refl _ _).alloc (Nat.le_refl _) _⟩
set_option maxHeartbeats 400000 in
theorem sput4 (n : Nat) (w : World) : Calls Tryz.prog 108 #[.int .i64 n, .int .i64 4] w fun e w' => e = .returned (.string (put4 n)) ∧ Below w.heap.size w w' := by
  have hm := make4
  have hc := conv4 w
  rw [show put4 n = strOfNums [(n : Int) / 256 / 256 / 256 % 256, (n : Int) / 256 / 256 % 256, (n : Int) / 256 % 256, (n : Int) % 256] by
    unfold put4
    rw [show (n : Int) / 16777216 = (n : Int) / 256 / 256 / 256 by omega, show (n : Int) / 65536 = (n : Int) / 256 / 256 by omega]]
  go_enter Tryz.func108, Tryz.ntmps108
  go_wp2_with fail
  go_rounds 5
  go_ret
  exact ⟨rfl, (Below.refl _ _).alloc (Nat.le_refl _) _⟩
end Go.Proofs.YtghopihgnmnlcaaGreatDoor
namespace Go.Proofs.YtghopihgnmnlcaaGreatDoor
open Go.RowKit
set_option maxHeartbeats 400000 in
theorem ask1 (m a g : Int) (p c d : Bool) (w : World) : Calls Tryz.prog 165 #[cfgV m a g p c d] w fun e w' => e = .returned (.tuple #[.int .i64 m, .bool (m != 300)]) ∧ Below w.heap.size w w' := by
  go_enter Tryz.func165, Tryz.ntmps165
  go_wp2_with fail
  go_quiet (fail)
  go_wp2
  go_ret2
  exact ⟨rfl, below_drewN ((Below.refl _ _).alloc (Nat.le_refl _) _) _⟩
set_option maxHeartbeats 400000 in
theorem ask2 (m a g : Int) (p c d : Bool) (w : World) : Calls Tryz.prog 171 #[cfgV m a g p c d] w fun e w' => e = .returned (.tuple #[.int .i64 a, .bool (a != 4294967295)]) ∧ Below w.heap.size w w' := by
  go_enter Tryz.func171, Tryz.ntmps171
  go_wp2_with fail
  go_quiet (fail)
  go_wp2
  go_ret2
  exact ⟨rfl, below_drewN ((Below.refl _ _).alloc (Nat.le_refl _) _) _⟩
set_option maxHeartbeats 400000 in
theorem ask5 (m a g : Int) (p c d : Bool) (w : World) : Calls Tryz.prog 176 #[cfgV m a g p c d] w fun e w' => e = .returned (.tuple #[.int .i64 g, .bool (g != 0)]) ∧ Below w.heap.size w w' := by
  go_enter Tryz.func176, Tryz.ntmps176
  go_wp2_with fail
  go_quiet (fail)
  go_wp2
  go_ret2
  exact ⟨rfl, below_drewN ((Below.refl _ _).alloc (Nat.le_refl _) _) _⟩
set_option maxHeartbeats 400000 in
theorem ask7 (m a g : Int) (p c d : Bool) (w : World) : Calls Tryz.prog 182 #[cfgV m a g p c d] w fun e w' => e = .returned (.tuple #[.int .i64 0, .bool p]) ∧ Below w.heap.size w w' := by
  go_enter Tryz.func182, Tryz.ntmps182
  go_wp2_with fail
  go_quiet (fail)
  go_wp2
  go_ret2
  exact ⟨rfl, below_drewN ((Below.refl _ _).alloc (Nat.le_refl _) _) _⟩
set_option maxHeartbeats 400000 in
theorem ask8 (m a g : Int) (p c d : Bool) (w : World) : Calls Tryz.prog 187 #[cfgV m a g p c d] w fun e w' => e = .returned (.tuple #[.int .i64 0, .bool c]) ∧ Below w.heap.size w w' := by
  go_enter Tryz.func187, Tryz.ntmps187
  go_wp2_with fail
  go_quiet (fail)
  go_wp2
  go_ret2
  exact ⟨rfl, below_drewN ((Below.refl _ _).alloc (Nat.le_refl _) _) _⟩
set_option maxHeartbeats 400000 in
theorem ask9 (m a g : Int) (p c d : Bool) (w : World) : Calls Tryz.prog 192 #[cfgV m a g p c d] w fun e w' => e = .returned (.tuple #[.int .i64 4, .bool d]) ∧ Below w.heap.size w w' := by
  go_enter Tryz.func192, Tryz.ntmps192
  go_wp2_with fail
  go_quiet (fail)
  go_wp2
  go_ret2
  exact ⟨rfl, below_drewN ((Below.refl _ _).alloc (Nat.le_refl _) _) _⟩
/-- The option that is asked for, if it is. -/
def askIf (b : Bool) (k : Int) (t : ByteArray) : List Op.Opt := if b then [⟨k, t⟩] else []
theorem askIf_yes (k : Int) (t : ByteArray) : askIf true k t = [⟨k, t⟩] := rfl
theorem askIf_no (k : Int) (t : ByteArray) : askIf false k t = [] := rfl
/-- What a Config asks for, kind by kind. -/
def askP (m a g : Nat) (p c d : Bool) : List (List Op.Opt) :=
  [askIf ((m : Int) != 300) 1 (put2 m), askIf ((a : Int) != 4294967295) 2 (put4 a), askIf ((g : Int) != 0) 5 (put4 g), askIf p 7 ⟨#[]⟩, askIf c 8 ⟨#[]⟩, askIf d 9 (put1 4)]
/-- What a Config asks for, of the first kinds. -/
def askL (m a g : Nat) (p c d : Bool) (i : Nat) : List Op.Opt := ((askP m a g p c d).take i).flatten
theorem askIf_len (b : Bool) (k : Int) (t : ByteArray) : (askIf b k t).length ≤ 1 := by unfold askIf; split <;> simp
theorem askL_len (m a g : Nat) (p c d : Bool) (i : Nat) : (askL m a g p c d i).length ≤ 6 := by
  have h : ∀ (n : Nat) (l : List (List Op.Opt)), l.length = n → (∀ x ∈ l, x.length ≤ 1) → l.flatten.length ≤ n := by
    intro n l hl hx
    induction l generalizing n with
    | nil => simp
    | cons x l ih =>
      have h1 := hx x (by simp)
      have h2 := ih _ rfl fun y hy => hx y (by simp [hy])
      rw [List.flatten_cons, List.length_append]
      rw [List.length_cons] at hl
      omega
  have hA : ∀ x ∈ askP m a g p c d, x.length ≤ 1 := by
    intro x hx
    simp only [askP, List.mem_cons, List.not_mem_nil, or_false] at hx
    rcases hx with rfl | rfl | rfl | rfl | rfl | rfl <;> exact askIf_len _ _ _
  have := h _ ((askP m a g p c d).take i) rfl fun x hx => hA x (List.mem_of_mem_take hx)
  have h6 : ((askP m a g p c d).take i).length ≤ 6 := by rw [List.length_take]; simp [askP]; omega
  unfold askL
  omega
/-- The kinds that Ask goes through, as a value. -/
abbrev kindsV : Value := .agg #[.int .i64 1, .int .i64 2, .int .i64 5, .int .i64 7, .int .i64 8, .int .i64 9]
/-- One kind's round: its rule, what it asks for, and the bytes of that. -/
structure AskR (m a g : Nat) (p c d : Bool) (i : Nat) (k s : Int) (f f2 f3 f4 f5 n j : Nat) (b : Bool) (t : ByteArray) : Prop where
  ix : ∀ W, (Instr.index 300 kindsV (.int .i64 i)).run Tryz.prog W = .ok (.int .i64 k) W
  fd : Instr.findNow (.int .i64) (.int .i64 k) rules.toList 0 = some (some (j, ruleV s f f2 f3 f4 f5))
  cf : ∀ args W, (callFunc f args).run Tryz.prog W = .ok (.enter f args) W
  ask : ∀ v, Calls Tryz.prog f #[cfgV m a g p c d] v fun e w' => e = .returned (.tuple #[.int .i64 n, .bool b]) ∧ Below v.heap.size v w'
  num : ∀ v, Calls Tryz.prog 213 #[.int .i64 n, .int .i64 s] v fun e w' => e = .returned (.string t) ∧ Below v.heap.size v w'
  lst : askL m a g p c d (i + 1) = askL m a g p c d i ++ askIf b k t
set_option maxRecDepth 100000 in
theorem ask_row (m a g : Nat) (p c d : Bool) (i : Nat) (hi : i < 6) : ∃ k s f f2 f3 f4 f5 n j b t, AskR m a g p c d i k s f f2 f3 f4 f5 n j b t := by
  match i, hi with
  | 0, _ => exact ⟨_, _, _, _, _, _, _, _, _, _, _, ⟨fun W => rfl, rfl, cf_of (by kernel_rfl), fun v => ask1 m a g p c d v, fun v => num2 m v, by simp [askL, askP]⟩⟩
  | 1, _ => exact ⟨_, _, _, _, _, _, _, _, _, _, _, ⟨fun W => rfl, rfl, cf_of (by kernel_rfl), fun v => ask2 m a g p c d v, fun v => num4 a v, by simp [askL, askP]⟩⟩
  | 2, _ => exact ⟨_, _, _, _, _, _, _, _, _, _, _, ⟨fun W => rfl, rfl, cf_of (by kernel_rfl), fun v => ask5 m a g p c d v, fun v => num4 g v, by simp [askL, askP]⟩⟩
  | 3, _ => exact ⟨_, _, _, _, _, _, _, 0, _, _, _, ⟨fun W => rfl, rfl, cf_of (by kernel_rfl), fun v => ask7 m a g p c d v, fun v => num0 0 v, by simp [askL, askP]⟩⟩
  | 4, _ => exact ⟨_, _, _, _, _, _, _, 0, _, _, _, ⟨fun W => rfl, rfl, cf_of (by kernel_rfl), fun v => ask8 m a g p c d v, fun v => num0 0 v, by simp [askL, askP]⟩⟩
  | 5, _ => exact ⟨_, _, _, _, _, _, _, 4, _, _, _, ⟨fun W => rfl, rfl, cf_of (by kernel_rfl), fun v => ask9 m a g p c d v, fun v => num1 4 v, by simp [askL, askP]⟩⟩
end Go.Proofs.YtghopihgnmnlcaaGreatDoor
namespace Go.Proofs.YtghopihgnmnlcaaGreatDoor
open Go.RowKit
theorem append_opt {wr : World} {ops : Array Oper} {rest : List Oper} {o : Oper} {a : Act} {Q : Exit → Act → World → Prop} (hgd : o.guard = none) (s x : Operand)
    (ho : o.op = .call { callee := .builtin .append, args := #[s, x], argTypes := #[25, 25] })
    (base : Nat) (v : Value) (F : List Op.Opt) (n : Nat) (hn : F.length = n) (hs : a.eval s = v) (hown : wr.ownsRow base 118 2 v n (ocells F)) (kd : Int) (dt : ByteArray) (hx : a.eval x = .slice (some ⟨wr.heap.size, 0, none⟩) 1 1) (hlen : n ≤ 1000) (hbase : base ≤ wr.heap.size)
    (h : ∀ v' w', w'.ownsRow base 118 2 v' (n + 1) (ocells (F ++ [⟨kd, dt⟩])) → (wr.alloc (.cells #[.int .i64 kd, .string dt] 118)).grownBy w' v.ownBlock → wpList Tryz.prog ops Q rest (a.put o.dst v') w') : wpList Tryz.prog ops Q (o :: rest) a (wr.alloc (.cells #[.int .i64 kd, .string dt] 118)) := by
  obtain ⟨i0, hi0, hz0, hz1, hz2⟩ := oinfo
  refine wpList_append_own _ hgd s x 25 ho base 118 i0 _ 2 24 Tryz.underlying25 hi0 hz0 hz1 hz2 rfl (by decide) v n (ocells F) hs (hown.alloc _) ⟨wr.heap.size, 0, none⟩ 1 1 [.int .i64 kd, .string dt] hx rfl ?_ ?_ ?_ ?_ ?_ ?_
  · intro i u hu
    rw [Addr.add_lit, Nat.zero_add, World.cell?_alloc_at _ _ _ _ rfl, ← hu]
    simp
  · intro u hu
    simp only [List.mem_cons, List.not_mem_nil, or_false] at hu
    rcases hu with rfl | rfl <;> rfl
  · unfold maxLen; omega
  · omega
  · simp; omega
  · intro v' w2 hown2 hg2 _
    refine h v' w2 ?_ hg2
    rw [ocells_append]
    exact hown2
end Go.Proofs.YtghopihgnmnlcaaGreatDoor
namespace Go.Proofs.YtghopihgnmnlcaaGreatDoor
open Go.RowKit
theorem own_lower {w : World} {base base' : Nat} {e : TypeId} {size : Nat} {v : Value} {n : Nat} {xs : List Value} (h : w.ownsRow base e size v n xs) (hb : base' ≤ base) : w.ownsRow base' e size v n xs :=
  ⟨h.1, h.2.imp id fun ⟨g, cap, cur, h1, h2, h3⟩ => ⟨g, cap, cur, h1, Nat.le_trans hb h2, h3⟩⟩
set_option maxHeartbeats 2000000 in
theorem implAskNo (m a g : Int) (p c d : Bool) (w : World) (h : cfgOk m a g = false) : Calls Tryz.prog 239 #[cfgV m a g p c d] w fun e w' => e = .returned (.slice none 0 0) ∧ Below w.heap.size w w' := by
  have C := hide fun v => implCfg m a g p c d v
  rw [h] at C
  go_enter Tryz.func239, Tryz.ntmps239
  go_wp2_with fail
  refine (unhide C _).mono ?_
  rintro e w1 ⟨rfl, hb1⟩
  go_wp2
  go_ret
  exact ⟨rfl, ((Below.refl _ _).alloc (Nat.le_refl _) _).trans (hb1.mono (by simp))⟩
set_option maxHeartbeats 4000000 in
theorem implAskYes (m a g : Nat) (p c d : Bool) (w : World) (h : cfgOk m a g = true) :
    Calls Tryz.prog 239 #[cfgV m a g p c d] w fun e w' => ∃ ad cp, e = .returned (.slice ad (askL m a g p c d 6).length cp) ∧ w'.ownsRow w.heap.size 118 2 (.slice ad (askL m a g p c d 6).length cp) (askL m a g p c d 6).length (ocells (askL m a g p c d 6)) ∧ Below w.heap.size w w' := by
  have C := hide fun v => implCfg m a g p c d v
  rw [h] at C
  clear h
  go_enter Tryz.func239, Tryz.ntmps239
  go_wp2_with fail
  refine (unhide C _).mono ?_
  rintro e w1 ⟨rfl, hb1⟩
  have hr1 := (hb1.block w.heap.size (by simp)).trans (heap_alloc_last w (.cells #[.int .i64 m, .int .i64 a, .int .i64 g, .bool p, .bool c, .bool d] 24))
  have hB1 := ((Below.refl w.heap.size w).alloc (Nat.le_refl _) (.cells #[.int .i64 m, .int .i64 a, .int .i64 g, .bool p, .bool c, .bool d] 24)).trans (hb1.mono (by simp))
  clear hb1 C
  go_wp2_with fail
  refine (optionRules _).mono ?_
  rintro e w2 ⟨rfl, hm2, hb2⟩
  have hr2 := (hb2.block w.heap.size (Array.getElem?_eq_some_iff.1 hr1).1).trans hr1
  have hB2 := hB1.trans (hb2.mono hB1.size)
  have hc1 : w.heap.size < w2.heap.size := (Array.getElem?_eq_some_iff.1 hr2).1
  have hc2 : w1.heap.size < w2.heap.size := (Array.getElem?_eq_some_iff.1 hm2).1
  generalize w1.heap.size = M at *
  have HR2 := hide hr2
  have HM2 := hide hm2
  have HB2 := hide hB2
  clear hr1 hr2 hm2 hB1 hB2 hb2
  go_wp2_with fail
  go_loopw [4, 15] (fun x y wr => ∃ (i : Nat) (ad : Option Addr) (cp : Nat), i ≤ 6 ∧ y = .int .i64 i ∧ x = .slice ad (askL m a g p c d i).length cp ∧ wr.ownsRow w2.heap.size 118 2 (.slice ad (askL m a g p c d i).length cp) (askL m a g p c d i).length (ocells (askL m a g p c d i)) ∧ Below w2.heap.size w2 wr) (fun _ y _ => 6 - (intOf y).toNat)
  case atStart => exact ⟨0, none, 0, by omega, rfl, rfl, ⟨rfl, Or.inl ⟨rfl, rfl⟩⟩, Below.refl _ _⟩
  case round =>
    obtain ⟨i, ad, cp, hi, rfl, rfl, ho, hb⟩ := hrel
    by_cases hlt : i < 6
    · have d1 : (i : Int) < 6 := by omega
      obtain ⟨k, s, f, f2, f3, f4, f5, n, j, b, t, hR⟩ := ask_row m a g p c d i hlt
      have hix := hR.ix
      have hcf := hR.cf
      have hlk := look_at wr M rules 6 j k _ ((hb.block M hc2).trans (unhide HM2)) hR.fd
      have hcr := (hb.block w.heap.size hc1).trans (unhide HR2)
      obtain ⟨c0, c1, c2, c3, c4, c5⟩ := row6 hcr
      have hbs := hb.size
      have HR := hide hR
      have HO := hide ho
      have HB := hide hb
      have hln := askL_len m a g p c d i
      clear hR ho hb c0 c1 c2 c3 c4 c5
      go_upto_region 9 with fail
      refine gen_world (fun q => q.heap[wr.heap.size]? = some (.cells #[.int .i64 s, fnV f, fnV f2, fnV f3, fnV f4, fnV f5] 187) ∧ q.heap[w.heap.size]? = some (.cells #[.int .i64 m, .int .i64 a, .int .i64 g, .bool p, .bool c, .bool d] 24) ∧ Below wr.heap.size wr q)
        ⟨heap_alloc_new wr _, (Below.heap_alloc _ _ _ (by omega)).trans hcr, (Below.refl _ _).alloc (Nat.le_refl _) _⟩ ?_
      rintro q ⟨hrq, hcq, hbq⟩
      obtain ⟨c0, c1, c2, c3, c4, c5⟩ := row6 hcq
      obtain ⟨r0, r1, r2, r3, r4, r5⟩ := row6 hrq
      have HQ := hide (And.intro hrq hbq)
      clear hcr hcq hrq hbq
      go_wp2_with fail
      refine ((unhide HR).ask _).mono ?_
      rintro e w3 ⟨rfl, hb3⟩
      have hR3 := (hb3.block wr.heap.size (Array.getElem?_eq_some_iff.1 (unhide HQ).1).1).trans (unhide HQ).1
      have hbw : Below wr.heap.size wr w3 := (unhide HQ).2.trans (hb3.mono (unhide HQ).2.size)
      have HO3 := hide (own_same (unhide HO) fun q _ hq => hbw.block q hq)
      have HB3 := hide ((unhide HB).trans (hbw.mono hbs))
      clear hb3 HO HB r0 r1 r2 r3 r4 r5 HQ
      obtain ⟨r0, r1, r2, r3, r4, r5⟩ := row6 hR3
      have hbs3 := Nat.le_trans hbs hbw.size
      clear hR3 hbw r1 r2 r3 r4 r5 c0 c1 c2 c3 c4 c5 hix hlk hcf
      have hls := (unhide HR).lst
      have HLS := hide hls
      clear hls
      cases b
      · go_wp2_with fail
        go_roundw
        case rel => 
          refine ⟨i + 1, ad, cp, by omega, by go_num, ?_, ?_, unhide HB3⟩
          · rw [unhide HLS, askIf_no, List.append_nil]
          · rw [unhide HLS, askIf_no, List.append_nil]
            exact unhide HO3
        case measure => simp [intOf]; omega
      · go_wp2_with fail
        refine ((unhide HR).num _).mono ?_
        rintro e w4 ⟨rfl, hb4⟩
        have HO4 := hide (own_same (unhide HO3) fun q _ hq => hb4.block q hq)
        have HB4 := hide ((unhide HB3).trans (hb4.mono hbs3))
        have hbs4 := Nat.le_trans hbs3 hb4.size
        clear hb4 HO3 HB3 r0
        go_wp2_with (first | (at_builtin; refine append_opt rfl _ _ rfl w2.heap.size (.slice ad (askL m a g p c d i).length cp) (askL m a g p c d i) (askL m a g p c d i).length rfl rfl (unhide HO4) k t rfl (by omega) hbs4 ?_; rintro v6 w6 ho6 hg6; obtain ⟨a6, c6, rfl⟩ := own_form ho6))
        have hb6 : Below w2.heap.size w2 w6 := ((unhide HB4).alloc hbs4 _).grown hg6 (by simp; omega) (fun q hq => (World.ownsRow.lt (unhide HO4) q hq).1)
        go_roundw
        case rel =>
          have hl1 : (askL m a g p c d i).length + 1 = (askL m a g p c d (i + 1)).length := by rw [unhide HLS, askIf_yes, List.length_append]; rfl
          refine ⟨i + 1, a6, c6, by omega, by go_num, ?_, ?_, hb6⟩
          · rw [← hl1]
          · rw [← hl1, unhide HLS, askIf_yes]
            exact ho6
        case measure => simp [intOf]; omega
    · have e : i = 6 := by omega
      subst e
      have d1 : ¬ (((6 : Nat) : Int) < 6) := by omega
      have hB2 := unhide HB2
      have ho6 := own_lower ho hB2.size
      have hb6 := hB2.trans (hb.mono hB2.size)
      clear HR2 HM2 HB2
      go_wp2
      go_ret
      exact ⟨ad, cp, rfl, ho6, hb6⟩
end Go.Proofs.YtghopihgnmnlcaaGreatDoor
