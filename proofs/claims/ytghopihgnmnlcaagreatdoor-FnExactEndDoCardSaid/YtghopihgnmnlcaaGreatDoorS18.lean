/- What the actions do to an end, and what stays right; plain mathematics. The program's end at work: an id more, a try less, a packet sent, and down; what lay in memory stands. -/
import Derived.Test.YtghopihgnmnlcaaGreatDoorS11
import Derived.Test.YtghopihgnmnlcaaGreatDoorS15
import Derived.Test.YtghopihgnmnlcaaGreatDoorS17
import Derived.Test.YtghopihgnmnlcaaGreatDoorS12
import Derived.Test.YtghopihgnmnlcaaGreatDoorS01
import Derived.Test.YtghopihgnmnlcaaGreatDoorS16
import Derived.Test.YtghopihgnmnlcaaGreatDoorS13
import Derived.Great.Walk
import Derived.Deep.RegionHeld
namespace Go.Proofs.YtghopihgnmnlcaaGreatDoor
open Go.RowKit
/-- An id more; a try less; up, and down. -/
def nextE (e : En) : En := { e with id := (e.id + 1) % 256 }
def tryE (now : Int) (e : En) : En := { e with tr := max 0 (e.tr - 1), du := now + 3 }
def downE (e : En) : En := { e with up := false, i1 := 0, i2 := 0, i3 := false, i4 := false, i5 := false, o1 := 0, o2 := 0, o3 := false, o4 := false, o5 := false }
def upE (L1 L2 : Ln) (e : En) : En := { e with up := true, i1 := L1.m, i2 := L1.a, i3 := L1.p, i4 := L1.c, i5 := L1.d, o1 := L2.m, o2 := L2.a, o3 := L2.p, o4 := L2.c, o5 := L2.d }
/-- What an end asks for. -/
def askOf (e : En) : List Op.Opt := askL e.m2.toNat e.a2.toNat e.g2.toNat e.p2 e.c2 e.d2 6
/-- A packet put behind. -/
def putS (s : St) (cd id : Int) (dt : ByteArray) : St := { s with sn := s.sn ++ [⟨cd, id, dt⟩] }
/-- The actions' names: irc zrc scr str tls tlf tld tlu. -/
abbrev nIrc : ByteArray := ⟨#[105, 114, 99]⟩
abbrev nZrc : ByteArray := ⟨#[122, 114, 99]⟩
abbrev nScr : ByteArray := ⟨#[115, 99, 114]⟩
abbrev nStr : ByteArray := ⟨#[115, 116, 114]⟩
abbrev nTls : ByteArray := ⟨#[116, 108, 115]⟩
abbrev nTlf : ByteArray := ⟨#[116, 108, 102]⟩
abbrev nTld : ByteArray := ⟨#[116, 108, 100]⟩
abbrev nTlu : ByteArray := ⟨#[116, 108, 117]⟩
/-- What each does. -/
def doIrc (s : St) : St := { s with e := { s.e with tr := 5 } }
def doZrc (s : St) : St := { s with e := { s.e with tr := 0 } }
def doScr (c : Cx) (s : St) : St := { s with e := tryE c.now (nextE s.e), F1 := askOf s.e, sn := s.sn ++ [⟨1, (s.e.id + 1) % 256, txt (Op.bytes (askOf s.e))⟩] }
def doStr (c : Cx) (s : St) : St := { s with e := tryE c.now (nextE s.e), sn := s.sn ++ [⟨5, (s.e.id + 1) % 256, ⟨#[]⟩⟩] }
def say (t : ByteArray) (s : St) : St := { s with tl := s.tl ++ [t] }
def doTld (s : St) : St := say nTld { s with e := downE s.e }
def doTlu (s : St) : St := say nTlu { s with e := upE (lineOf s.F1) (lineOf s.F2) s.e }
abbrev nSca : ByteArray := ⟨#[115, 99, 97]⟩
abbrev nScn : ByteArray := ⟨#[115, 99, 110]⟩
abbrev nSta : ByteArray := ⟨#[115, 116, 97]⟩
abbrev nScj : ByteArray := ⟨#[115, 99, 106]⟩
abbrev nSer : ByteArray := ⟨#[115, 101, 114]⟩
def doSca (c : Cx) (s : St) : St := { s with e := { s.e with fl := 0 }, F2 := c.hd, sn := s.sn ++ [⟨2, c.ci, txt (Op.bytes c.ao)⟩] }
def doScn (c : Cx) (s : St) : St := { s with e := { s.e with fl := if c.ac = 3 then min 3 (s.e.fl + 1) else s.e.fl }, sn := s.sn ++ [⟨c.ac, c.ci, txt (Op.bytes c.ao)⟩] }
def doSta (c : Cx) (s : St) : St := { s with sn := s.sn ++ [⟨6, c.ci, ⟨#[]⟩⟩] }
def doScj (t : ByteArray) (s : St) : St := { s with e := nextE s.e, sn := s.sn ++ [⟨7, (s.e.id + 1) % 256, t⟩] }
def doSer (c : Cx) (s : St) : St := if c.cc = 9 ∧ 4 ≤ c.cd.size then { s with sn := s.sn ++ [⟨10, c.ci, put4 s.e.g2.toNat ++ c.cd.extract 4 c.cd.size⟩] } else s
/-- The bytes of what came, the first 250. -/
def cameT (c : Cx) : ByteArray := first250 (ptV ⟨c.cc, c.ci, c.cd⟩)
/-- An action by its name. -/
def actF (c : Cx) (t : ByteArray) (s : St) : St :=
  if t = nIrc then doIrc s else if t = nZrc then doZrc s else if t = nScr then doScr c s else if t = nStr then doStr c s else if t = nSca then doSca c s else if t = nScn then doScn c s
  else if t = nSta then doSta c s else if t = nScj then doScj (cameT c) s else if t = nSer then doSer c s else if t = nTlu then doTlu s else if t = nTld then doTld s else say t s
/-- Do actions set the tries. -/
def setT (t : ByteArray) : Bool := decide (t.toList = [105, 114, 99]) || decide (t.toList = [122, 114, 99])
/-- The end behind its actions. -/
def endE (c : Cx) (A : List ByteArray) (st : Int) (e : En) : En :=
  { e with st := st, du := if runs st = true then (if (decide (e.du < 0) || A.any setT) = true then c.now + 3 else e.du) else -1 }
/-- What is answered. -/
structure EO where
  e : En
  F1 : List Op.Opt
  F2 : List Op.Opt
  sn : List Op.Pk
  tl : List ByteArray
  cd : Int
def eoErr (cd : Int) : EO := ⟨enZero, [], [], [], [], cd⟩
/-- An event happens. -/
def evF (c : Cx) (s : St) (t : ByteArray) : EO :=
  if (fsmF s.e.st t).2.2 = 0 then
    ⟨endE c (fsmF s.e.st t).2.1 (fsmF s.e.st t).1 ((fsmF s.e.st t).2.1.foldl (fun s a => actF c a s) s).e, ((fsmF s.e.st t).2.1.foldl (fun s a => actF c a s) s).F1, ((fsmF s.e.st t).2.1.foldl (fun s a => actF c a s) s).F2, ((fsmF s.e.st t).2.1.foldl (fun s a => actF c a s) s).sn, ((fsmF s.e.st t).2.1.foldl (fun s a => actF c a s) s).tl, 0⟩
  else eoErr (fsmF s.e.st t).2.2
/-- An answer in memory: rows of its own. -/
def EvA (w0 : World) (o : EO) (r : Ending) (q : World) : Prop :=
  ∃ v1 v2 vs vt, r = .returned (.agg (eoC o.e v1 v2 vs vt o.cd)) ∧ q.ownsRow w0.heap.size 118 2 v1 o.F1.length (ocells o.F1) ∧ q.ownsRow w0.heap.size 118 2 v2 o.F2.length (ocells o.F2) ∧ q.ownsRow w0.heap.size 35 3 vs o.sn.length (pkcells o.sn) ∧ q.ownsRow w0.heap.size 9 1 vt o.tl.length (scells o.tl) ∧ Ap v1 v2 ∧ Below w0.heap.size w0 q
/-- What is right while an event happens: n at most were sent, and told. -/
structure Fit (n : Nat) (c : Cx) (s : St) : Prop where
  cf : cfgOk s.e.m1 s.e.a1 s.e.g1 = true
  ask : cfgOk s.e.m2 s.e.a2 s.e.g2 = true
  id : 0 ≤ s.e.id ∧ s.e.id ≤ 255
  tr : 0 ≤ s.e.tr ∧ s.e.tr ≤ 5
  fl : 0 ≤ s.e.fl ∧ s.e.fl ≤ 3
  now : 0 ≤ c.now ∧ c.now ≤ 1000000000
  f1 : opOk s.F1 = true
  f2 : opOk s.F2 = true
  sn : s.sn.length ≤ n
  tl : s.tl.length ≤ n
  hd : opOk c.hd = true
  ao : opOk c.ao = true
  cd : c.cd.size ≤ 250
  du : -1 ≤ s.e.du
theorem opOk_right {F : List Op.Opt} (h : opOk F = true) : Op.right F = true := by unfold opOk at h; rw [Bool.and_eq_true] at h; exact h.1
theorem nextE_id (e : En) : 0 ≤ (nextE e).id ∧ (nextE e).id ≤ 255 := by unfold nextE; dsimp only; omega
theorem askL_mem {m a g : Nat} {p c d : Bool} {o : Op.Opt} (h : o ∈ askL m a g p c d 6) : Op.ok o = true ∧ o.data.size ≤ 4 := by
  unfold askL at h
  obtain ⟨x, hx, ho⟩ := List.mem_flatten.1 h
  have hx' := List.mem_of_mem_take hx
  have key : ∀ (b : Bool) (k : Int) (t : ByteArray), (1 ≤ k ∧ k ≤ 255 ∧ t.size ≤ 4) → o ∈ askIf b k t → Op.ok o = true ∧ o.data.size ≤ 4 := by
    intro b k t hk hm
    cases b
    · simp [askIf] at hm
    · simp [askIf] at hm
      subst hm
      exact ⟨decide_eq_true ⟨hk.1, hk.2.1, by show t.size ≤ 20; omega⟩, hk.2.2⟩
  simp only [askP, List.mem_cons, List.not_mem_nil, or_false] at hx'
  rcases hx' with rfl | rfl | rfl | rfl | rfl | rfl
  · exact key _ _ _ ⟨by decide, by decide, by show 2 ≤ 4; decide⟩ ho
  · exact key _ _ _ ⟨by decide, by decide, by show 4 ≤ 4; decide⟩ ho
  · exact key _ _ _ ⟨by decide, by decide, by show 4 ≤ 4; decide⟩ ho
  · exact key _ _ _ ⟨by decide, by decide, by show 0 ≤ 4; decide⟩ ho
  · exact key _ _ _ ⟨by decide, by decide, by show 0 ≤ 4; decide⟩ ho
  · exact key _ _ _ ⟨by decide, by decide, by show 1 ≤ 4; decide⟩ ho
theorem bytes_le6 (F : List Op.Opt) (h : ∀ o ∈ F, o.data.size ≤ 4) : (Op.bytes F).length ≤ 6 * F.length := by
  induction F with
  | nil => simp [Op.bytes]
  | cons o F ih =>
    have h1 := ih fun x hx => h x (by simp [hx])
    have h2 := h o (by simp)
    have e : Op.bytes (o :: F) = Op.one o ++ Op.bytes F := rfl
    have e1 : (Op.one o).length = 2 + o.data.size := by unfold Op.one; rw [List.length_append]; show 2 + o.data.data.toList.length = _; rfl
    rw [e, List.length_append, e1, List.length_cons]
    omega
theorem askOf_ok (e : En) : opOk (askOf e) = true := by
  have h1 : (askOf e).length ≤ 6 := askL_len _ _ _ _ _ _ _
  have h2 := bytes_le6 (askOf e) fun o ho => (askL_mem ho).2
  unfold opOk Op.right
  rw [Bool.and_eq_true, Bool.and_eq_true]
  exact ⟨⟨decide_eq_true (by omega), List.all_eq_true.2 fun o ho => (askL_mem ho).1⟩, decide_eq_true (by omega)⟩
theorem cfgNat {m a g : Int} (h : cfgOk m a g = true) : ((m.toNat : Nat) : Int) = m ∧ ((a.toNat : Nat) : Int) = a ∧ ((g.toNat : Nat) : Int) = g := by
  simp only [cfgOk, within, Bool.and_eq_true, decide_eq_true_eq] at h
  omega
theorem askOf_len (e : En) : (askOf e).length ≤ 6 := askL_len _ _ _ _ _ _ _
theorem Fit.irc {n : Nat} {c : Cx} {s : St} (h : Fit n c s) : Fit (n + 1) c (doIrc s) := ⟨h.cf, h.ask, h.id, ⟨show (0 : Int) ≤ 5 by decide, show (5 : Int) ≤ 5 by decide⟩, h.fl, h.now, h.f1, h.f2, Nat.le_succ_of_le h.sn, Nat.le_succ_of_le h.tl, h.hd, h.ao, h.cd, h.du⟩
theorem Fit.zrc {n : Nat} {c : Cx} {s : St} (h : Fit n c s) : Fit (n + 1) c (doZrc s) := ⟨h.cf, h.ask, h.id, ⟨show (0 : Int) ≤ 0 by decide, show (0 : Int) ≤ 5 by decide⟩, h.fl, h.now, h.f1, h.f2, Nat.le_succ_of_le h.sn, Nat.le_succ_of_le h.tl, h.hd, h.ao, h.cd, h.du⟩
theorem tryE_tr {now : Int} {e : En} (h : 0 ≤ e.tr ∧ e.tr ≤ 5) : 0 ≤ (tryE now e).tr ∧ (tryE now e).tr ≤ 5 := by unfold tryE; dsimp only; omega
theorem Fit.scr {n : Nat} {c : Cx} {s : St} (h : Fit n c s) : Fit (n + 1) c (doScr c s) :=
  ⟨h.cf, h.ask, nextE_id _, tryE_tr h.tr, h.fl, h.now, askOf_ok _, h.f2, by have := h.sn; simp [doScr]; omega, Nat.le_succ_of_le h.tl, h.hd, h.ao, h.cd, by have := h.now; show -1 ≤ c.now + 3; omega⟩
theorem Fit.str {n : Nat} {c : Cx} {s : St} (h : Fit n c s) : Fit (n + 1) c (doStr c s) :=
  ⟨h.cf, h.ask, nextE_id _, tryE_tr h.tr, h.fl, h.now, h.f1, h.f2, by have := h.sn; simp [doStr]; omega, Nat.le_succ_of_le h.tl, h.hd, h.ao, h.cd, by have := h.now; show -1 ≤ c.now + 3; omega⟩
theorem Fit.say {n : Nat} {c : Cx} {s : St} (h : Fit n c s) (t : ByteArray) : Fit (n + 1) c (say t s) :=
  ⟨h.cf, h.ask, h.id, h.tr, h.fl, h.now, h.f1, h.f2, Nat.le_succ_of_le h.sn, by have := h.tl; simp [Go.Proofs.YtghopihgnmnlcaaGreatDoor.say]; omega, h.hd, h.ao, h.cd, h.du⟩
theorem Fit.tld {n : Nat} {c : Cx} {s : St} (h : Fit n c s) : Fit (n + 1) c (doTld s) :=
  Fit.say (s := { s with e := downE s.e }) ⟨h.cf, h.ask, h.id, h.tr, h.fl, h.now, h.f1, h.f2, h.sn, h.tl, h.hd, h.ao, h.cd, h.du⟩ _
theorem Fit.tlu {n : Nat} {c : Cx} {s : St} (h : Fit n c s) : Fit (n + 1) c (doTlu s) :=
  Fit.say (s := { s with e := upE (lineOf s.F1) (lineOf s.F2) s.e }) ⟨h.cf, h.ask, h.id, h.tr, h.fl, h.now, h.f1, h.f2, h.sn, h.tl, h.hd, h.ao, h.cd, h.du⟩ _
theorem Fit.put {n : Nat} {c : Cx} {s : St} (h : Fit n c s) (p : Op.Pk) : Fit (n + 1) c { s with sn := s.sn ++ [p] } :=
  ⟨h.cf, h.ask, h.id, h.tr, h.fl, h.now, h.f1, h.f2, by have := h.sn; simp; omega, Nat.le_succ_of_le h.tl, h.hd, h.ao, h.cd, h.du⟩
theorem Fit.up {n : Nat} {c : Cx} {s : St} (h : Fit n c s) : Fit (n + 1) c s :=
  ⟨h.cf, h.ask, h.id, h.tr, h.fl, h.now, h.f1, h.f2, Nat.le_succ_of_le h.sn, Nat.le_succ_of_le h.tl, h.hd, h.ao, h.cd, h.du⟩
theorem Fit.act {n : Nat} {c : Cx} {s : St} (h : Fit n c s) (t : ByteArray) : Fit (n + 1) c (actF c t s) := by
  unfold actF
  split
  · exact h.irc
  split
  · exact h.zrc
  split
  · exact h.scr
  split
  · exact h.str
  split
  · exact Fit.put (s := { s with e := { s.e with fl := 0 }, F2 := c.hd }) ⟨h.cf, h.ask, h.id, h.tr, ⟨show (0 : Int) ≤ 0 by decide, show (0 : Int) ≤ 3 by decide⟩, h.now, h.f1, h.hd, h.sn, h.tl, h.hd, h.ao, h.cd, h.du⟩ _
  split
  · refine Fit.put (s := { s with e := { s.e with fl := if c.ac = 3 then min 3 (s.e.fl + 1) else s.e.fl } }) ⟨h.cf, h.ask, h.id, h.tr, ?_, h.now, h.f1, h.f2, h.sn, h.tl, h.hd, h.ao, h.cd, h.du⟩ _
    have := h.fl
    dsimp only
    split <;> omega
  split
  · exact h.put _
  split
  · exact Fit.put (s := { s with e := nextE s.e }) ⟨h.cf, h.ask, nextE_id _, h.tr, h.fl, h.now, h.f1, h.f2, h.sn, h.tl, h.hd, h.ao, h.cd, h.du⟩ _
  split
  · unfold doSer
    split
    · exact h.put _
    · exact h.up
  split
  · exact h.tlu
  split
  · exact h.tld
  · exact h.say _
theorem Fit.fold {c : Cx} {s : St} (h : Fit 0 c s) (A : List ByteArray) (i : Nat) : Fit i c ((A.take i).foldl (fun s a => actF c a s) s) := by
  induction i with
  | zero => exact h
  | succ i ih =>
    by_cases hi : i < A.length
    · rw [List.take_succ_eq_append_getElem hi, List.foldl_append]
      exact ih.act _
    · have e : A.take (i + 1) = A.take i := by rw [List.take_of_length_le (by omega), List.take_of_length_le (by omega)]
      rw [e]
      exact ih.up
end Go.Proofs.YtghopihgnmnlcaaGreatDoor
namespace Go.Proofs.YtghopihgnmnlcaaGreatDoor
open Go.RowKit
theorem ttI : Tt 85 := ⟨by decide, by decide, by decide⟩
section
variable {w0 w1 : World} {B : Nat} {c : Cx} {s : St} {v1 v2 vs vt : Value} {q : World}
set_option maxHeartbeats 1000000 in
set_option maxRecDepth 100000 in
theorem iNext (h : Lay 85 w0 w1 B c s v1 v2 vs vt q) (hid : 0 ≤ s.e.id ∧ s.e.id ≤ 255) :
    Calls Tryz.prog 241 #[.pointer (some ⟨B, 0, none⟩)] q fun r q' => r = .returned (.int .i64 ((s.e.id + 1) % 256)) ∧ Lay 85 w0 w1 B c { s with e := nextE s.e } v1 v2 vs vt q' := by
  have c15 := h.cell (i := 15) rfl
  have f15 := h.frz 15
  obtain ⟨h1, h2⟩ := hid
  have h' := h.setRaw 15 (.int .i64 ((s.e.id + 1) % 256)) (nextE s.e) rfl
  have d15 := h'.cell (i := 15) rfl
  dsimp only [nextE] at d15
  have hm : (s.e.id + 1).tmod 256 = (s.e.id + 1) % 256 := Int.tmod_eq_emod_of_nonneg (by omega)
  have HL := hide h'
  clear h h'
  go_enter Tryz.func241, Tryz.ntmps241
  go_wp2
  go_ret
  exact ⟨rfl, unhide HL⟩
set_option maxHeartbeats 1000000 in
set_option maxRecDepth 100000 in
theorem iTry (h : Lay 85 w0 w1 B c s v1 v2 vs vt q) (htr : 0 ≤ s.e.tr ∧ s.e.tr ≤ 5) (hn : 0 ≤ c.now ∧ c.now ≤ 1000000000) :
    Calls Tryz.prog 242 #[.pointer (some ⟨B, 0, none⟩)] q fun r q' => r = .returned (.tuple #[]) ∧ Lay 85 w0 w1 B c { s with e := tryE c.now s.e } v1 v2 vs vt q' := by
  have c13 := h.cell (i := 13) rfl
  have f13 := h.frz 13
  obtain ⟨h1, h2⟩ := htr
  obtain ⟨h3, h4⟩ := hn
  have h' := h.setRaw 13 (.int .i64 (max 0 (s.e.tr - 1))) { s.e with tr := max 0 (s.e.tr - 1) } rfl
  have c14 := h'.cell (i := 14) rfl
  have f14 := h'.frz 14
  have c30 := h'.cell (i := 30) rfl
  have h'' := h'.setRaw 14 (.int .i64 (c.now + 3)) (tryE c.now s.e) rfl
  have HL := hide h''
  clear h h' h''
  dsimp only at c14 c30
  go_enter Tryz.func242, Tryz.ntmps242
  go_wp2
  exact Great.bodyPost_end0 rfl rfl ⟨rfl, unhide HL⟩
set_option maxHeartbeats 1000000 in
set_option maxRecDepth 100000 in
theorem iSend (h : Lay 85 w0 w1 B c s v1 v2 vs vt q) (hS : s.sn.length ≤ 1000) (cd id : Int) (dt : ByteArray) :
    Calls Tryz.prog 240 #[.pointer (some ⟨B, 0, none⟩), .int .i64 cd, .int .i64 id, .string dt] q fun r q' => r = .returned (.tuple #[]) ∧ ∃ vs', Lay 85 w0 w1 B c (putS s cd id dt) v1 v2 vs' vt q' := by
  have c0 := h.cell (i := 37) rfl
  obtain ⟨ad, cp, rfl⟩ := own_form h.os
  obtain ⟨n, hn⟩ : ∃ n, s.sn.length = n := ⟨_, rfl⟩
  have ho := h.os
  rw [hn] at c0 ho hS h
  have HO := hide ho
  have HL := hide h
  clear h ho
  go_enter Tryz.func240, Tryz.ntmps240
  go_wp2_with (first
    | (at_builtin; refine append_pk rfl _ _ rfl w1.heap.size (.slice ad n cp) s.sn n hn rfl (unhide HO) cd id dt rfl hS (unhide HL).nr.size ?_; rintro v6 w6 ho6 hg6; obtain ⟨a6, c6, rfl⟩ := own_form ho6
       have e6 := (hg6.block B (Nat.lt_of_lt_of_le (unhide HL).lt (by simp)) (fun e => (own_ty (unhide HL).os (unhide HL).row (unhide HL).tt.2.1) e.symm)).trans ((Below.heap_alloc _ _ _ (unhide HL).lt).trans (unhide HL).row)
       have k6 : w6.cell? ⟨B, 37, none⟩ = some (.slice ad n cp) := by rw [cell_of_row _ _ _ _ _ _ e6]; rfl
       have f6 : w6.frozen? ⟨B, 37, none⟩ = false := frz e6 37
       clear e6))
  refine Great.bodyPost_end0 rfl rfl ⟨rfl, _, (unhide HL).put _ hg6 _ _ ?_⟩
  rw [List.length_append, hn]
  exact ho6
set_option maxHeartbeats 4000000 in
set_option maxRecDepth 100000 in
theorem iFall (h : Lay 85 w0 w1 B c s v1 v2 vs vt q) :
    Calls Tryz.prog 234 #[.pointer (some ⟨B, 0, none⟩)] q fun r q' => r = .returned (.tuple #[]) ∧ Lay 85 w0 w1 B c { s with e := downE s.e } v1 v2 vs vt q' := by
  have c19 := h.cell (i := 19) rfl
  have f19 := h.frz 19
  have h19 := h.setRaw 19 (.bool false) { s.e with up := false } rfl
  have c20 := h19.cell (i := 20) rfl
  have f20 := h19.frz 20
  have h20 := h19.setRaw 20 (.int .i64 0) { s.e with up := false, i1 := 0 } rfl
  have c21 := h20.cell (i := 21) rfl
  have f21 := h20.frz 21
  have h21 := h20.setRaw 21 (.int .i64 0) { s.e with up := false, i1 := 0, i2 := 0 } rfl
  have c22 := h21.cell (i := 22) rfl
  have f22 := h21.frz 22
  have h22 := h21.setRaw 22 (.bool false) { s.e with up := false, i1 := 0, i2 := 0, i3 := false } rfl
  have c23 := h22.cell (i := 23) rfl
  have f23 := h22.frz 23
  have h23 := h22.setRaw 23 (.bool false) { s.e with up := false, i1 := 0, i2 := 0, i3 := false, i4 := false } rfl
  have c24 := h23.cell (i := 24) rfl
  have f24 := h23.frz 24
  have h24 := h23.setRaw 24 (.bool false) { s.e with up := false, i1 := 0, i2 := 0, i3 := false, i4 := false, i5 := false } rfl
  have c25 := h24.cell (i := 25) rfl
  have f25 := h24.frz 25
  have h25 := h24.setRaw 25 (.int .i64 0) { s.e with up := false, i1 := 0, i2 := 0, i3 := false, i4 := false, i5 := false, o1 := 0 } rfl
  have c26 := h25.cell (i := 26) rfl
  have f26 := h25.frz 26
  have h26 := h25.setRaw 26 (.int .i64 0) { s.e with up := false, i1 := 0, i2 := 0, i3 := false, i4 := false, i5 := false, o1 := 0, o2 := 0 } rfl
  have c27 := h26.cell (i := 27) rfl
  have f27 := h26.frz 27
  have h27 := h26.setRaw 27 (.bool false) { s.e with up := false, i1 := 0, i2 := 0, i3 := false, i4 := false, i5 := false, o1 := 0, o2 := 0, o3 := false } rfl
  have c28 := h27.cell (i := 28) rfl
  have f28 := h27.frz 28
  have h28 := h27.setRaw 28 (.bool false) { s.e with up := false, i1 := 0, i2 := 0, i3 := false, i4 := false, i5 := false, o1 := 0, o2 := 0, o3 := false, o4 := false } rfl
  have c29 := h28.cell (i := 29) rfl
  have f29 := h28.frz 29
  have h29 := h28.setRaw 29 (.bool false) (downE s.e) rfl
  have HL := hide h29
  clear h h19 h20 h21 h22 h23 h24 h25 h26 h27 h28 h29
  dsimp only at c20 c21 c22 c23 c24 c25 c26 c27 c28 c29
  go_enter Tryz.func234, Tryz.ntmps234
  go_wp2
  exact Great.bodyPost_end0 rfl rfl ⟨rfl, unhide HL⟩
set_option maxHeartbeats 1000000 in
set_option maxRecDepth 100000 in
theorem iSet (h : Lay 85 w0 w1 B c s v1 v2 vs vt q) (n : Int) :
    Calls Tryz.prog 235 #[.agg #[.int .i64 n], .pointer (some ⟨B, 0, none⟩)] q fun r q' => r = .returned (.tuple #[]) ∧ Lay 85 w0 w1 B c { s with e := { s.e with tr := n } } v1 v2 vs vt q' := by
  have hb : Below q.heap.size q (q.alloc (.cells #[.int .i64 n] 135)) := (Below.refl _ _).alloc (Nat.le_refl _) _
  have h0 := h.step hb
  have c13 := h0.cell (i := 13) rfl
  have f13 := h0.frz 13
  have HL := hide (h0.setRaw 13 (.int .i64 n) { s.e with tr := n } rfl)
  clear h h0 hb
  go_enter Tryz.func235, Tryz.ntmps235
  go_wp2
  exact Great.bodyPost_end0 rfl rfl ⟨rfl, unhide HL⟩
set_option maxHeartbeats 2000000 in
set_option maxRecDepth 100000 in
theorem iEnd {n : Nat} (h : Lay 85 w0 w1 B c s v1 v2 vs vt q) (hf : Fit n c s) (hn : n ≤ 1000) :
    Calls Tryz.prog 243 #[.agg #[], .pointer (some ⟨B, 0, none⟩)] q fun r q' => r = .returned (.tuple #[]) ∧ ∃ vs', Lay 85 w0 w1 B c (doStr c s) v1 v2 vs' vt q' := by
  have hb : Below q.heap.size q (q.alloc (.cells #[] 161)) := (Below.refl _ _).alloc (Nat.le_refl _) _
  have HL := hide (h.step hb)
  have HF := hide hf
  clear h hb hf
  go_enter Tryz.func243, Tryz.ntmps243
  go_wp2_with fail
  refine (iNext (unhide HL) (unhide HF).id).mono ?_
  rintro r q1 ⟨rfl, h1⟩
  have HL1 := hide h1
  clear h1
  go_wp2_with fail
  refine (iSend (unhide HL1) (Nat.le_trans (unhide HF).sn hn) 5 _ _).mono ?_
  rintro r q2 ⟨rfl, vs2, h2⟩
  have HL2 := hide h2
  clear h2
  go_wp2_with fail
  refine (iTry (unhide HL2) (unhide HF).tr (unhide HF).now).mono ?_
  rintro r q3 ⟨rfl, h3⟩
  go_wp2
  exact Great.bodyPost_end0 rfl rfl ⟨rfl, _, h3⟩
set_option maxHeartbeats 4000000 in
set_option maxRecDepth 100000 in
theorem iReq {n : Nat} (h : Lay 85 w0 w1 B c s v1 v2 vs vt q) (hf : Fit n c s) (hn : n ≤ 1000) :
    Calls Tryz.prog 238 #[.agg #[], .pointer (some ⟨B, 0, none⟩)] q fun r q' => r = .returned (.tuple #[]) ∧ ∃ v1' vs', Lay 85 w0 w1 B c (doScr c s) v1' v2 vs' vt q' := by
  have HF := hide hf
  obtain ⟨e1, e2, e3⟩ := cfgNat hf.ask
  have CA := hide fun W => implAskYes s.e.m2.toNat s.e.a2.toNat s.e.g2.toNat s.e.p2 s.e.c2 s.e.d2 W (by rw [e1, e2, e3]; exact hf.ask)
  rw [e1, e2, e3] at CA
  clear e1 e2 e3
  have hb : Below q.heap.size q (q.alloc (.cells #[] 160)) := (Below.refl _ _).alloc (Nat.le_refl _) _
  have h0 := h.step hb
  have c6 := h0.cell (i := 6) rfl
  have c7 := h0.cell (i := 7) rfl
  have c8 := h0.cell (i := 8) rfl
  have c9 := h0.cell (i := 9) rfl
  have c10 := h0.cell (i := 10) rfl
  have c11 := h0.cell (i := 11) rfl
  have HL := hide h0
  clear h h0 hb hf
  go_enter Tryz.func238, Tryz.ntmps238
  go_wp2_with fail
  refine (unhide CA _).mono ?_
  rintro r q1 ⟨ad, cp, rfl, ho, hb⟩
  have h1 := (unhide HL).step hb
  have c17 := h1.cell (i := 17) rfl
  have f17 := h1.frz 17
  have HL1 := hide ((unhide HL).new1 hb _ (askOf s.e) ho)
  clear h1 ho hb HL CA c6 c7 c8 c9 c10 c11
  go_upto_region 2 with fail
  refine gen_world (fun z => Lay 85 w0 w1 B c { s with F1 := askOf s.e } (.slice ad (askOf s.e).length cp) v2 vs vt z) ?_ ?_
  · exact unhide HL1
  clear HL1 c17 f17
  rintro z hz
  have c17 := hz.cell (i := 17) rfl
  have HZ := hide (hz.step (Below.refl _ _).drew)
  clear hz
  refine wp_region_held_drew (S := fun z => z.cell? ⟨B, 17, none⟩ = some (.slice ad (askOf s.e).length cp)) (by kernel_rfl) ?_ (fun hHeld => ?_)
  · exact c17
  refine wpAnyH_take (i := 0) (v := ?va0) rfl (by kernel_rfl) (by kernel_rfl) (by kernel_rfl) (fun _ _ _ h => h) (Or.inl ⟨by rfl, ?hya0⟩) (by assumption) ?_
  case hya0 =>
    intro w hSw
    try dsimp only at hSw
    go_simp
    try with_reducible rfl
  try simp only [Act.put, List.setIfInBounds_toArray, List.set_cons_zero, List.set_cons_succ, List.getElem_toArray, List.getElem_cons_zero]
  refine wpAnyH_take (i := 1) (v := ?va1) rfl (by kernel_rfl) (by kernel_rfl) (by kernel_rfl) (fun _ _ _ h => h) (Or.inl ⟨by rfl, ?hya1⟩) (by assumption) ?_
  case hya1 =>
    intro w hSw
    try dsimp only at hSw
    go_simp
    try with_reducible rfl
  try simp only [Act.put, List.setIfInBounds_toArray, List.set_cons_zero, List.set_cons_succ, List.getElem_toArray, List.getElem_cons_zero, List.getElem_cons_succ]
  refine wpAnyH_take (i := 2) (v := ?va2) rfl (by kernel_rfl) (by kernel_rfl) (by kernel_rfl) (fun _ _ _ h => h) (Or.inl ⟨by rfl, ?hya2⟩) (by assumption) ?_
  case hya2 =>
    intro w hSw
    try dsimp only at hSw
    go_simp
    try with_reducible rfl
  try simp only [Act.put, List.setIfInBounds_toArray, List.set_cons_zero, List.set_cons_succ, List.getElem_toArray, List.getElem_cons_zero, List.getElem_cons_succ]
  refine wpAnyH_take (i := 3) (v := ?va3) rfl (by kernel_rfl) (by kernel_rfl) (by kernel_rfl) (fun _ _ _ h => h) (Or.inl ⟨by rfl, ?hya3⟩) (by assumption) ?_
  case hya3 =>
    intro w hSw
    try dsimp only at hSw
    go_simp
    try with_reducible rfl
  try simp only [Act.put, List.setIfInBounds_toArray, List.set_cons_zero, List.set_cons_succ, List.getElem_toArray, List.getElem_cons_zero, List.getElem_cons_succ]
  refine wpAnyH_take (i := 5) (v := ?va5) rfl (by kernel_rfl) (by kernel_rfl) (by kernel_rfl) (fun _ _ _ h => h) (Or.inl ⟨by rfl, ?hya5⟩) (by assumption) ?_
  case hya5 =>
    intro w hSw
    try dsimp only at hSw
    go_simp
    try with_reducible rfl
  try simp only [Act.put, List.setIfInBounds_toArray, List.set_cons_zero, List.set_cons_succ, List.getElem_toArray, List.getElem_cons_zero, List.getElem_cons_succ]
  refine wpAnyH_take (i := 6) (v := ?va6) rfl (by kernel_rfl) (by kernel_rfl) (by kernel_rfl) (fun _ _ _ h => h) (Or.inl ⟨by rfl, ?hya6⟩) (by assumption) ?_
  case hya6 =>
    intro w hSw
    try dsimp only at hSw
    go_simp
    try with_reducible rfl
  try simp only [Act.put, List.setIfInBounds_toArray, List.set_cons_zero, List.set_cons_succ, List.getElem_toArray, List.getElem_cons_zero, List.getElem_cons_succ]
  refine wpAnyH_take (i := 7) (v := ?va7) rfl (by kernel_rfl) (by kernel_rfl) (by kernel_rfl) (fun _ _ _ h => h) (Or.inl ⟨by rfl, ?hya7⟩) (by assumption) ?_
  case hya7 =>
    intro w hSw
    try dsimp only at hSw
    go_simp
    try with_reducible rfl
  try simp only [Act.put, List.setIfInBounds_toArray, List.set_cons_zero, List.set_cons_succ, List.getElem_toArray, List.getElem_cons_zero, List.getElem_cons_succ]
  refine wpAnyH_take (i := 8) (v := ?va8) rfl (by kernel_rfl) (by kernel_rfl) (by kernel_rfl) (fun _ _ _ h => h) (Or.inl ⟨by rfl, ?hya8⟩) (by assumption) ?_
  case hya8 =>
    intro w hSw
    try dsimp only at hSw
    go_simp
    try with_reducible rfl
  try simp only [Act.put, List.setIfInBounds_toArray, List.set_cons_zero, List.set_cons_succ, List.getElem_toArray, List.getElem_cons_zero, List.getElem_cons_succ]
  refine wpAnyH_take (i := 9) (v := ?va9) rfl (by kernel_rfl) (by kernel_rfl) (by kernel_rfl) (fun _ _ _ h => h) (Or.inl ⟨by rfl, ?hya9⟩) (by assumption) ?_
  case hya9 =>
    intro w hSw
    try dsimp only at hSw
    go_simp
    try with_reducible rfl
  try simp only [Act.put, List.setIfInBounds_toArray, List.set_cons_zero, List.set_cons_succ, List.getElem_toArray, List.getElem_cons_zero, List.getElem_cons_succ]
  refine wpAnyH_ready (rs := [4]) (by kernel_rfl) (by simp) ?_
  refine AllReadyH.cons rfl (fun K hK => ?_) (AllReadyH.nil)
  go_simp
  refine (iNext (unhide HZ) (unhide HF).id).mono ?_
  rintro r z1 ⟨rfl, h1⟩
  have HZ1 := hide h1
  clear h1
  go_wp2_with fail
  refine hK.out _ _ ?_ (fun _ => ?_)
  · exact (unhide HZ1).cell (i := 17) rfl
  clear hK K
  try simp only [Act.put, List.setIfInBounds_toArray, List.set_cons_zero, List.set_cons_succ, List.getElem_toArray, List.getElem_cons_zero, List.getElem_cons_succ]
  refine wpAnyH_ready (rs := [10]) (by kernel_rfl) (by simp) ?_
  refine AllReadyH.cons rfl (fun K hK => ?_) (AllReadyH.nil)
  go_simp
  refine (implBytesAll _ (askOf s.e) _ (by have := askOf_len s.e; unfold maxLen; omega) (HoldsO.own (unhide HZ1).o1)).mono ?_
  rintro r z2 ⟨rfl, hb2⟩
  have HZ2 := hide ((unhide HZ1).step hb2)
  clear hb2
  go_wp2_with fail
  refine hK.out _ _ ?_ (fun _ => ?_)
  · exact (unhide HZ2).cell (i := 17) rfl
  clear hK K
  try simp only [Act.put, List.setIfInBounds_toArray, List.set_cons_zero, List.set_cons_succ, List.getElem_toArray, List.getElem_cons_zero, List.getElem_cons_succ]
  refine wpAnyH_ready (rs := [11]) (by kernel_rfl) (by simp) ?_
  refine AllReadyH.cons rfl (fun K hK => ?_) (AllReadyH.nil)
  go_simp
  refine (iSend (unhide HZ2) (Nat.le_trans (unhide HF).sn hn) 1 _ _).mono ?_
  rintro r z3 ⟨rfl, vs3, h3⟩
  have HP := hide h3
  clear h3
  go_wp2_with fail
  refine hK.out _ _ ?_ (fun _ => ?_)
  · exact (unhide HP).cell (i := 17) rfl
  clear hK K
  try simp only [Act.put, List.setIfInBounds_toArray, List.set_cons_zero, List.set_cons_succ, List.getElem_toArray, List.getElem_cons_zero, List.getElem_cons_succ]
  refine wpAnyH_done (by kernel_rfl) ?_ _
  go_wp2_with fail
  refine (iTry (unhide HP) (unhide HF).tr (unhide HF).now).mono ?_
  rintro r q9 ⟨rfl, h9⟩
  go_wp2
  have e9 : otV (askOf s.e) = txt (Op.bytes (askOf s.e)) := otV_yes (opOk_right (askOf_ok s.e))
  rw [e9] at h9
  exact Great.bodyPost_end0 rfl rfl ⟨rfl, _, _, h9⟩
end
end Go.Proofs.YtghopihgnmnlcaaGreatDoor
