/- The program's actions by their names, what is told, and when an end waits no more; what lay in memory stands. Answers in memory: whole, with a code alone, read, stored; an action that is done; the actions so far. What each rule says of a number that is asked for: the code of the answer, and the number that would be good; what lay in memory stands. -/
import Derived.Test.YtghopihgnmnlcaaGreatDoorS18
import Derived.Test.YtghopihgnmnlcaaGreatDoorS19
import Derived.Test.YtghopihgnmnlcaaGreatDoorS16
import Derived.Test.YtghopihgnmnlcaaGreatDoorS04
import Derived.Test.YtghopihgnmnlcaaGreatDoorS05
namespace Go.Proofs.YtghopihgnmnlcaaGreatDoor
open Go.RowKit
set_option maxHeartbeats 1000000 in
set_option maxRecDepth 100000 in
theorem aIrc (w : World) : Calls Tryz.prog 87 #[.string nIrc] w fun e w' => e = .returned (.iface 135 (.agg #[.int .i64 5])) ∧ w' = w := by
  go_enter Tryz.func87, Tryz.ntmps87
  go_wp2
  go_ret
  exact ⟨rfl, rfl⟩
set_option maxHeartbeats 1000000 in
set_option maxRecDepth 100000 in
theorem aZrc (w : World) : Calls Tryz.prog 87 #[.string nZrc] w fun e w' => e = .returned (.iface 135 (.agg #[.int .i64 0])) ∧ w' = w := by
  go_enter Tryz.func87, Tryz.ntmps87
  go_wp2
  go_ret
  exact ⟨rfl, rfl⟩
set_option maxHeartbeats 1000000 in
set_option maxRecDepth 100000 in
theorem aScr (w : World) : Calls Tryz.prog 87 #[.string nScr] w fun e w' => e = .returned (.iface 160 (.agg #[])) ∧ w' = w := by
  go_enter Tryz.func87, Tryz.ntmps87
  go_wp2
  go_ret
  exact ⟨rfl, rfl⟩
set_option maxHeartbeats 1000000 in
set_option maxRecDepth 100000 in
theorem aStr (w : World) : Calls Tryz.prog 87 #[.string nStr] w fun e w' => e = .returned (.iface 161 (.agg #[])) ∧ w' = w := by
  go_enter Tryz.func87, Tryz.ntmps87
  go_wp2
  go_ret
  exact ⟨rfl, rfl⟩
set_option maxHeartbeats 1000000 in
set_option maxRecDepth 100000 in
theorem aSca (w : World) : Calls Tryz.prog 87 #[.string nSca] w fun e w' => e = .returned (.iface 162 (.agg #[])) ∧ w' = w := by
  go_enter Tryz.func87, Tryz.ntmps87
  go_wp2
  go_ret
  exact ⟨rfl, rfl⟩
set_option maxHeartbeats 1000000 in
set_option maxRecDepth 100000 in
theorem aScn (w : World) : Calls Tryz.prog 87 #[.string nScn] w fun e w' => e = .returned (.iface 162 (.agg #[])) ∧ w' = w := by
  go_enter Tryz.func87, Tryz.ntmps87
  go_wp2
  go_ret
  exact ⟨rfl, rfl⟩
set_option maxHeartbeats 1000000 in
set_option maxRecDepth 100000 in
theorem aSta (w : World) : Calls Tryz.prog 87 #[.string nSta] w fun e w' => e = .returned (.iface 163 (.agg #[])) ∧ w' = w := by
  go_enter Tryz.func87, Tryz.ntmps87
  go_wp2
  go_ret
  exact ⟨rfl, rfl⟩
set_option maxHeartbeats 1000000 in
set_option maxRecDepth 100000 in
theorem aScj (w : World) : Calls Tryz.prog 87 #[.string nScj] w fun e w' => e = .returned (.iface 164 (.agg #[])) ∧ w' = w := by
  go_enter Tryz.func87, Tryz.ntmps87
  go_wp2
  go_ret
  exact ⟨rfl, rfl⟩
set_option maxHeartbeats 1000000 in
set_option maxRecDepth 100000 in
theorem aSer (w : World) : Calls Tryz.prog 87 #[.string nSer] w fun e w' => e = .returned (.iface 165 (.agg #[])) ∧ w' = w := by
  go_enter Tryz.func87, Tryz.ntmps87
  go_wp2
  go_ret
  exact ⟨rfl, rfl⟩
set_option maxHeartbeats 1000000 in
set_option maxRecDepth 100000 in
theorem aTls (w : World) : Calls Tryz.prog 87 #[.string nTls] w fun e w' => e = .returned (.iface 137 (.agg #[.string nTls])) ∧ w' = w := by
  go_enter Tryz.func87, Tryz.ntmps87
  go_wp2
  go_ret
  exact ⟨rfl, rfl⟩
set_option maxHeartbeats 1000000 in
set_option maxRecDepth 100000 in
theorem aTlf (w : World) : Calls Tryz.prog 87 #[.string nTlf] w fun e w' => e = .returned (.iface 137 (.agg #[.string nTlf])) ∧ w' = w := by
  go_enter Tryz.func87, Tryz.ntmps87
  go_wp2
  go_ret
  exact ⟨rfl, rfl⟩
set_option maxHeartbeats 1000000 in
set_option maxRecDepth 100000 in
theorem aTld (w : World) : Calls Tryz.prog 87 #[.string nTld] w fun e w' => e = .returned (.iface 137 (.agg #[.string nTld])) ∧ w' = w := by
  go_enter Tryz.func87, Tryz.ntmps87
  go_wp2
  go_ret
  exact ⟨rfl, rfl⟩
set_option maxHeartbeats 1000000 in
set_option maxRecDepth 100000 in
theorem aTlu (w : World) : Calls Tryz.prog 87 #[.string nTlu] w fun e w' => e = .returned (.iface 137 (.agg #[.string nTlu])) ∧ w' = w := by
  go_enter Tryz.func87, Tryz.ntmps87
  go_wp2
  go_ret
  exact ⟨rfl, rfl⟩
section
variable {w0 w1 : World} {B : Nat} {c : Cx} {s : St} {v1 v2 vs vt : Value} {q : World}
set_option maxHeartbeats 1000000 in
set_option maxRecDepth 100000 in
theorem iTls (h : Lay 85 w0 w1 B c s v1 v2 vs vt q) :
    Calls Tryz.prog 236 #[.agg #[.string nTls], .pointer (some ⟨B, 0, none⟩)] q fun r q' => r = .returned (.tuple #[]) ∧ Lay 85 w0 w1 B c s v1 v2 vs vt q' := by
  have hb : Below q.heap.size q (q.alloc (.cells #[.string nTls] 137)) := (Below.refl _ _).alloc (Nat.le_refl _) _
  have HL := hide (h.step hb)
  clear h hb
  go_enter Tryz.func236, Tryz.ntmps236
  go_wp2
  exact Great.bodyPost_end0 rfl rfl ⟨rfl, unhide HL⟩
set_option maxHeartbeats 1000000 in
set_option maxRecDepth 100000 in
theorem iTlf (h : Lay 85 w0 w1 B c s v1 v2 vs vt q) :
    Calls Tryz.prog 236 #[.agg #[.string nTlf], .pointer (some ⟨B, 0, none⟩)] q fun r q' => r = .returned (.tuple #[]) ∧ Lay 85 w0 w1 B c s v1 v2 vs vt q' := by
  have hb : Below q.heap.size q (q.alloc (.cells #[.string nTlf] 137)) := (Below.refl _ _).alloc (Nat.le_refl _) _
  have HL := hide (h.step hb)
  clear h hb
  go_enter Tryz.func236, Tryz.ntmps236
  go_wp2
  exact Great.bodyPost_end0 rfl rfl ⟨rfl, unhide HL⟩
set_option maxHeartbeats 1000000 in
set_option maxRecDepth 100000 in
theorem iTld (h : Lay 85 w0 w1 B c s v1 v2 vs vt q) :
    Calls Tryz.prog 236 #[.agg #[.string nTld], .pointer (some ⟨B, 0, none⟩)] q fun r q' => r = .returned (.tuple #[]) ∧ Lay 85 w0 w1 B c { s with e := downE s.e } v1 v2 vs vt q' := by
  have hb : Below q.heap.size q (q.alloc (.cells #[.string nTld] 137)) := (Below.refl _ _).alloc (Nat.le_refl _) _
  have HL := hide (h.step hb)
  clear h hb
  go_enter Tryz.func236, Tryz.ntmps236
  go_wp2_with fail
  refine (iFall (unhide HL)).mono ?_
  rintro r q1 ⟨rfl, h1⟩
  go_wp2
  exact Great.bodyPost_end0 rfl rfl ⟨rfl, h1⟩
/-- When it is due. -/
def dueE (now : Int) (b : Bool) (e : En) : En := { e with du := if runs e.st = true then (if (b || e.du == -1) = true then now + 3 else e.du) else -1 }
set_option maxHeartbeats 4000000 in
set_option maxRecDepth 100000 in
theorem iDue (h : Lay 85 w0 w1 B c s v1 v2 vs vt q) (b : Bool) (hn : 0 ≤ c.now ∧ c.now ≤ 1000000000) :
    Calls Tryz.prog 88 #[.pointer (some ⟨B, 0, none⟩), .bool b] q fun r q' => r = .returned (.tuple #[]) ∧ Lay 85 w0 w1 B c { s with e := dueE c.now b s.e } v1 v2 vs vt q' := by
  have c12 := h.cell (i := 12) rfl
  have c14 := h.cell (i := 14) rfl
  have f14 := h.frz 14
  have c30 := h.cell (i := 30) rfl
  have C := hide (implWaits B s.e.st q c12)
  obtain ⟨h3, h4⟩ := hn
  have HL := hide h
  clear h c12
  cases hr : runs s.e.st
  · have HE : dueE c.now b s.e = { s.e with du := -1 } := by unfold dueE; rw [hr]; rfl
    rw [hr] at C
    go_enter Tryz.func88, Tryz.ntmps88
    go_wp2_with fail
    refine (unhide C).mono ?_
    rintro r ws ⟨rfl, hws⟩
    replace hws := hws.symm
    subst hws
    go_wp2
    refine Great.bodyPost_end0 rfl rfl ⟨rfl, ?_⟩
    rw [HE]
    exact (unhide HL).setRaw 14 (.int .i64 (-1)) { s.e with du := -1 } rfl
  · rw [hr] at C
    cases b
    · by_cases hd : s.e.du = -1
      · have HE : dueE c.now false s.e = { s.e with du := c.now + 3 } := by unfold dueE; rw [hr, hd]; rfl
        go_enter Tryz.func88, Tryz.ntmps88
        go_wp2_with fail
        refine (unhide C).mono ?_
        rintro r ws ⟨rfl, hws⟩
        replace hws := hws.symm
        subst hws
        go_wp2
        refine Great.bodyPost_end0 rfl rfl ⟨rfl, ?_⟩
        rw [HE]
        exact (unhide HL).setRaw 14 (.int .i64 (c.now + 3)) { s.e with du := c.now + 3 } rfl
      · have hd2 : (s.e.du == -1) = false := beq_eq_false_iff_ne.2 hd
        have HE : dueE c.now false s.e = s.e := by unfold dueE; rw [hr, hd2]; rfl
        go_enter Tryz.func88, Tryz.ntmps88
        go_wp2_with fail
        refine (unhide C).mono ?_
        rintro r ws ⟨rfl, hws⟩
        replace hws := hws.symm
        subst hws
        go_wp2
        refine Great.bodyPost_end0 rfl rfl ⟨rfl, ?_⟩
        rw [HE]
        exact unhide HL
    · have HE : dueE c.now true s.e = { s.e with du := c.now + 3 } := by unfold dueE; rw [hr]; rfl
      go_enter Tryz.func88, Tryz.ntmps88
      go_wp2_with fail
      refine (unhide C).mono ?_
      rintro r ws ⟨rfl, hws⟩
      replace hws := hws.symm
      subst hws
      go_wp2
      refine Great.bodyPost_end0 rfl rfl ⟨rfl, ?_⟩
      rw [HE]
      exact (unhide HL).setRaw 14 (.int .i64 (c.now + 3)) { s.e with du := c.now + 3 } rfl
end
end Go.Proofs.YtghopihgnmnlcaaGreatDoor
namespace Go.Proofs.YtghopihgnmnlcaaGreatDoor
open Go.RowKit
/-- An action is done, at whatever end at work. -/
def ActOk (T : TypeId) (f : FuncId) (c : Cx) (a : ByteArray) : Prop := ∀ (w0 w1 : World) (B : Nat) (s : St) (v1 v2 vs vt : Value) (q : World) (n : Nat), Lay T w0 w1 B c s v1 v2 vs vt q → Fit n c s → n ≤ 1000 →
  Calls Tryz.prog f #[.pointer (some ⟨B, 0, none⟩), .string a] q fun r q' => r = .returned (.tuple #[]) ∧ ∃ v1 v2 vs vt, Lay T w0 w1 B c (actF c a s) v1 v2 vs vt q'
theorem infoEo : (Tryz.prog.info? 42).map (·.size) = some 33 := by kernel_rfl
theorem loadEo {W : World} {E : Nat} {cs : Array Value} (h : W.heap[E]? = some (.cells cs 42)) (hs : cs.size = 33 := by rfl) : (loadVar 42 ⟨E, 0, none⟩).run Tryz.prog W = .ok (.agg cs) W :=
  run_loadVar_row (P := Tryz.prog) _ _ 42 42 cs (0, 0) _ h Tryz.underlying42 rfl (by rw [hs]; exact infoEo)
/-- The zero answer's cells. -/
abbrev eoZ : Array Value := #[.int .i64 0, .int .i64 0, .int .i64 0, .bool false, .bool false, .bool false, .int .i64 0, .int .i64 0, .int .i64 0, .bool false, .bool false, .bool false, .int .i64 0, .int .i64 0, .int .i64 0, .int .i64 0, .int .i64 0, .slice none 0 0, .slice none 0 0, .bool false, .int .i64 0, .int .i64 0, .bool false, .bool false, .bool false, .int .i64 0, .int .i64 0, .bool false, .bool false, .bool false, .slice none 0 0, .slice none 0 0, .int .i64 0]
theorem setRow_other (w : World) (g k : Nat) (cs : Array Value) (h : k ≠ g) : (w.setRow g cs).heap[k]? = w.heap[k]? := by
  unfold World.setRow
  simp [Array.getElem?_modify, Ne.symm h]
theorem own_setRow {w : World} {base : Nat} {e T : TypeId} {size : Nat} {v : Value} {n : Nat} {xs : List Value} (h : w.ownsRow base e size v n xs) {X : Nat} {old cs : Array Value} (hX : w.heap[X]? = some (.cells old T)) (hT : T ≠ e) : (w.setRow X cs).ownsRow base e size v n xs :=
  own_other h fun g hg => setRow_other w X g cs fun e => own_ty h hX hT (e ▸ hg)
/-- An answer with a code alone. -/
theorem evErr {w0 q : World} (hb : Below w0.heap.size w0 q) (cd : Int) : EvA w0 (eoErr cd) (.returned (.agg (eoC enZero (.slice none 0 0) (.slice none 0 0) (.slice none 0 0) (.slice none 0 0) cd))) q :=
  ⟨_, _, _, _, rfl, World.ownsRow_nil _ _ _ _, World.ownsRow_nil _ _ _ _, World.ownsRow_nil _ _ _ _, World.ownsRow_nil _ _ _ _, Ap.none _ _ _, hb⟩
theorem range_lay {T : TypeId} {w0 w1 : World} {B : Nat} {c : Cx} {s : St} {v1 v2 vs vt : Value} {q : World} (h : Lay T w0 w1 B c s v1 v2 vs vt q) : q.rangeAt B 0 (enC s.e v1 v2).toList := by
  intro j u hu
  have hj := (List.getElem?_eq_some_iff.1 hu).1
  rw [Nat.zero_add]
  refine h.cell (i := j) ?_
  show ((enC s.e v1 v2).toList ++ [.int .i64 c.now, .int .i64 c.cc, .int .i64 c.ci, .string c.cd, c.vh, .int .i64 c.ac, c.va, vs, vt])[j]? = some u
  rw [List.getElem?_append_left hj]
  exact hu
theorem eoC_all (e : En) (a1 a2 a3 a4 : Option Addr) (n1 n2 n3 n4 m1 m2 m3 m4 : Nat) (cd : Int) : (eoC e (.slice a1 n1 m1) (.slice a2 n2 m2) (.slice a3 n3 m3) (.slice a4 n4 m4) cd).all (·.oneCell') = true := by kernel_rfl
theorem take_any (A : List ByteArray) (i : Nat) (hi : i < A.length) : (A.take (i + 1)).any setT = ((A.take i).any setT || setT A[i]) := by
  rw [List.take_succ_eq_append_getElem hi, List.any_append, List.any_cons, List.any_nil, Bool.or_false]
theorem take_fold (c : Cx) (s : St) (A : List ByteArray) (i : Nat) (hi : i < A.length) : (A.take (i + 1)).foldl (fun s a => actF c a s) s = actF c A[i] ((A.take i).foldl (fun s a => actF c a s) s) := by
  rw [List.take_succ_eq_append_getElem hi, List.foldl_append]
  rfl
/-- A row of texts, read at a place. -/
theorem ownT_at {w : World} {base : Nat} {v : Value} {L : List ByteArray} (h : w.ownsRow base 9 1 v L.length (scells L)) (i : Nat) (hi : i < L.length) : ∃ g cp, v = .slice (some ⟨g, 0, none⟩) L.length cp ∧ g < w.heap.size ∧ w.cell? ⟨g, i, none⟩ = some (.string L[i]) := by
  rcases h.2 with ⟨_, h0⟩ | ⟨g, cap, cur, hv, _, hg, _, _, _, ht⟩
  · omega
  · refine ⟨g, cap, hv, (Array.getElem?_eq_some_iff.1 hg).1, ?_⟩
    rw [cell_of_row _ _ _ _ _ _ hg, ← Array.getElem?_toList]
    have e := scells_get L i L[i] (List.getElem?_eq_getElem hi)
    rw [← ht, List.getElem?_take, if_pos (by omega)] at e
    exact e
end Go.Proofs.YtghopihgnmnlcaaGreatDoor
namespace Go.Proofs.YtghopihgnmnlcaaGreatDoor
open Go.RowKit
/-- The code: an ack where it is good. -/
def gc (b : Bool) (x : Int) : Int := if b then 2 else x
set_option maxHeartbeats 400000 in
theorem goodOr (b : Bool) (x : Int) (w : World) : Calls Tryz.prog 167 #[.bool b, .int .i64 x] w fun e w' => e = .returned (.int .i64 (gc b x)) ∧ w' = w := by
  cases b
  · go_enter Tryz.func167, Tryz.ntmps167
    go_wp2
    go_ret
    exact ⟨rfl, rfl⟩
  · go_enter Tryz.func167, Tryz.ntmps167
    go_wp2
    go_ret
    exact ⟨rfl, rfl⟩
/-- The magic number that is asked for in the place of another one. -/
def magic (g : Nat) : Nat := max 1 ((g + 77) % 4294967296)
theorem and32 (g : Nat) (h : g < 4294967296) : bits .and .i64 ((g : Int) + 77) 4294967295 = (((g + 77) % 4294967296 : Nat) : Int) := by
  show IntKind.i64.wrap ((BitVec.ofInt 64 ((g : Int) + 77) &&& BitVec.ofInt 64 4294967295).toNat : Int) = _
  rw [show (g : Int) + 77 = ((g + 77 : Nat) : Int) by omega, BitVec.toNat_and, ofInt_u64 (g + 77) (by omega), show (BitVec.ofInt 64 4294967295).toNat = 2 ^ 32 - 1 by decide, Nat.and_two_pow_sub_one_eq_mod, IntKind.wrap_i64]
  omega
set_option maxHeartbeats 400000 in
theorem otherMagic (g : Nat) (w : World) (h : g < 4294967296) : Calls Tryz.prog 178 #[.int .i64 g] w fun e w' => e = .returned (.int .i64 (magic g : Nat)) ∧ w' = w := by
  have ha := and32 g h
  have HM : Hid (((magic g : Nat) : Int) = max 1 (((g + 77) % 4294967296 : Nat) : Int)) := hide (by unfold magic; omega)
  generalize (g + 77) % 4294967296 = r at *
  rw [unhide HM]
  clear HM
  go_enter Tryz.func178, Tryz.ntmps178
  go_wp2
  all_goals
    go_ret
    exact ⟨ret_int (by omega), rfl⟩
set_option maxHeartbeats 1000000 in
theorem judge1 (m a g : Int) (p c d : Bool) (n : Int) (w : World) : Calls Tryz.prog 166 #[cfgV m a g p c d, .int .i64 n] w fun e w' => e = .returned (.tuple #[.int .i64 (gc (within 64 300 n) 3), .int .i64 m]) ∧ Below w.heap.size w w' := by
  have C1 := hide fun v => mruRight n v
  generalize within 64 300 n = ok at *
  have C2 := hide fun v => goodOr ok 3 v
  go_enter Tryz.func166, Tryz.ntmps166
  go_wp2_with fail
  go_quiet ((first
    | (go_at_call 111; exact Calls.quiet_of_same (unhide C1 _))
    | (go_at_call 167; exact Calls.quiet_of_same (unhide C2 _))))
  go_wp2
  go_ret2
  exact ⟨rfl, below_drewN ((Below.refl _ _).alloc (Nat.le_refl _) _) _⟩
set_option maxHeartbeats 1000000 in
theorem judge2 (m a g : Nat) (p c d : Bool) (n : Nat) (w : World) (ha : a < 4294967296) (hn : n < 4294967296) : Calls Tryz.prog 172 #[cfgV m a g p c d, .int .i64 n] w fun e w' => e = .returned (.tuple #[.int .i64 (gc (((n ||| a : Nat) : Int) == (n : Int)) 3), .int .i64 (n ||| a : Nat)]) ∧ Below w.heap.size w w' := by
  have ho := i64_or_nat n a hn ha
  have C2 := hide fun v => goodOr (((n ||| a : Nat) : Int) == (n : Int)) 3 v
  generalize n ||| a = x at *
  go_enter Tryz.func172, Tryz.ntmps172
  go_wp2_with fail
  go_quiet ((first
    | (go_at_call 167; exact Calls.quiet_of_same (unhide C2 _))))
  go_wp2
  go_ret2
  exact ⟨rfl, below_drewN ((Below.refl _ _).alloc (Nat.le_refl _) _) _⟩
set_option maxHeartbeats 1000000 in
theorem judge5 (m a g : Nat) (p c d : Bool) (n : Nat) (w : World) (hg : g < 4294967296) : Calls Tryz.prog 177 #[cfgV m a g p c d, .int .i64 n] w fun e w' => e = .returned (.tuple #[.int .i64 (gc ((n : Int) != 0 && (n : Int) != (g : Int)) 3), .int .i64 (magic g : Nat)]) ∧ Below w.heap.size w w' := by
  have C1 := hide fun v => otherMagic g v hg
  generalize magic g = x at *
  cases hq : ((n : Int) != 0)
  · have C2 := hide fun v => goodOr false 3 v
    rw [Bool.false_and]
    go_enter Tryz.func177, Tryz.ntmps177
    go_wp2_with fail
    go_quiet ((first
      | (go_at_call 178; exact Calls.quiet_of_same (unhide C1 _))
      | (go_at_call 167; exact Calls.quiet_of_same (unhide C2 _))))
    go_wp2
    go_ret2
    exact ⟨rfl, below_drewN ((Below.refl _ _).alloc (Nat.le_refl _) _) _⟩
  · have C2 := hide fun v => goodOr ((n : Int) != (g : Int)) 3 v
    rw [Bool.true_and]
    go_enter Tryz.func177, Tryz.ntmps177
    go_wp2_with fail
    go_quiet ((first
      | (go_at_call 178; exact Calls.quiet_of_same (unhide C1 _))
      | (go_at_call 167; exact Calls.quiet_of_same (unhide C2 _))))
    go_wp2
    go_ret2
    exact ⟨rfl, below_drewN ((Below.refl _ _).alloc (Nat.le_refl _) _) _⟩
set_option maxHeartbeats 400000 in
theorem judge7 (m a g : Int) (p c d : Bool) (n : Int) (w : World) : Calls Tryz.prog 183 #[cfgV m a g p c d, .int .i64 n] w fun e w' => e = .returned (.tuple #[.int .i64 (gc p 4), .int .i64 0]) ∧ Below w.heap.size w w' := by
  have C2 := hide fun v => goodOr p 4 v
  go_enter Tryz.func183, Tryz.ntmps183
  go_wp2_with (first | (go_at_call 167; refine (unhide C2 _).mono ?_; rintro e w1 ⟨rfl, rfl⟩))
  go_ret2
  exact ⟨rfl, (Below.refl _ _).alloc (Nat.le_refl _) _⟩
set_option maxHeartbeats 400000 in
theorem judge8 (m a g : Int) (p c d : Bool) (n : Int) (w : World) : Calls Tryz.prog 188 #[cfgV m a g p c d, .int .i64 n] w fun e w' => e = .returned (.tuple #[.int .i64 (gc c 4), .int .i64 0]) ∧ Below w.heap.size w w' := by
  have C2 := hide fun v => goodOr c 4 v
  go_enter Tryz.func188, Tryz.ntmps188
  go_wp2_with (first | (go_at_call 167; refine (unhide C2 _).mono ?_; rintro e w1 ⟨rfl, rfl⟩))
  go_ret2
  exact ⟨rfl, (Below.refl _ _).alloc (Nat.le_refl _) _⟩
set_option maxHeartbeats 1000000 in
theorem judge9 (m a g : Int) (p c d : Bool) (n : Int) (w : World) : Calls Tryz.prog 193 #[cfgV m a g p c d, .int .i64 n] w fun e w' => e = .returned (.tuple #[.int .i64 (gc (n == 2 || (n == 4 && d)) 3), .int .i64 2]) ∧ Below w.heap.size w w' := by
  have C2 := hide fun b v => goodOr b 3 v
  cases hq : (n == 2)
  · cases hr : (n == 4)
    · rw [Bool.false_and, Bool.false_or]
      go_enter Tryz.func193, Tryz.ntmps193
      go_wp2_with (first | (go_at_call 167; refine (unhide C2 _ _).mono ?_; rintro e w1 ⟨rfl, rfl⟩))
      go_ret2
      exact ⟨rfl, (Below.refl _ _).alloc (Nat.le_refl _) _⟩
    · rw [Bool.true_and, Bool.false_or]
      go_enter Tryz.func193, Tryz.ntmps193
      go_wp2_with (first | (go_at_call 167; refine (unhide C2 _ _).mono ?_; rintro e w1 ⟨rfl, rfl⟩))
      go_ret2
      exact ⟨rfl, (Below.refl _ _).alloc (Nat.le_refl _) _⟩
  · rw [Bool.true_or]
    go_enter Tryz.func193, Tryz.ntmps193
    go_wp2_with (first | (go_at_call 167; refine (unhide C2 _ _).mono ?_; rintro e w1 ⟨rfl, rfl⟩))
    go_ret2
    exact ⟨rfl, (Below.refl _ _).alloc (Nat.le_refl _) _⟩
end Go.Proofs.YtghopihgnmnlcaaGreatDoor
