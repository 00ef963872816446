/- The mathematics of options and packets: which are right, their bytes, what is read of bytes; right ones come back from their bytes; no program, no condition. Rows of options in memory; are they right: the program's and the model's walks; what lay in memory stands. Two rows of options held against each other by the law; what lay in memory stands. -/
import Derived.Test.YtghopihgnmnlcaaGreatDoorS00
import Derived.Test.YtghopihgnmnlcaaGreatDoorS02
namespace Go.Proofs.YtghopihgnmnlcaaGreatDoor.Op
/-- An option: its kind and its text. -/
structure Opt where
  kind : Int
  data : ByteArray
def ok (o : Opt) : Bool := decide (1 ≤ o.kind ∧ o.kind ≤ 255 ∧ o.data.size ≤ 20)
def right (l : List Opt) : Bool := decide (l.length ≤ 20) && l.all ok
def one (o : Opt) : List UInt8 := [UInt8.ofNat o.kind.toNat, UInt8.ofNat (o.data.size + 2)] ++ o.data.data.toList
def bytes (l : List Opt) : List UInt8 := l.flatMap one
def told (l : List Opt) : List UInt8 := if right l = true then bytes l else []
/-- What is read of bytes, right or not. -/
def rd (l : List UInt8) : Option (List Opt) :=
  match l with
  | [] => some []
  | [_] => none
  | k :: n :: r => if _h : n.toNat < 2 ∨ r.length + 2 < n.toNat then none else (rd (r.drop (n.toNat - 2))).map fun L => ⟨(k.toNat : Int), txt (r.take (n.toNat - 2))⟩ :: L
termination_by l.length
decreasing_by simp; omega
/-- What is read behind some options: all, where they are right. -/
def acc (out : List Opt) (l : List UInt8) : Option (List Opt) := (rd l).bind fun L => if right (out ++ L) = true then some (out ++ L) else none
theorem rd_nil : rd [] = some [] := by rw [rd]
theorem rd_one (c : UInt8) : rd [c] = none := by rw [rd]
theorem rd_bad {k n : UInt8} {r : List UInt8} (h : n.toNat < 2 ∨ r.length + 2 < n.toNat) : rd (k :: n :: r) = none := by rw [rd, dif_pos h]
theorem rd_step {k n : UInt8} {r : List UInt8} (h : ¬ (n.toNat < 2 ∨ r.length + 2 < n.toNat)) : rd (k :: n :: r) = (rd (r.drop (n.toNat - 2))).map fun L => ⟨(k.toNat : Int), txt (r.take (n.toNat - 2))⟩ :: L := by rw [rd, dif_neg h]
theorem right_nil : right [] = true := rfl
theorem right_len {l : List Opt} (h : right l = true) : l.length ≤ 20 := by
  unfold right at h
  rw [Bool.and_eq_true] at h
  exact of_decide_eq_true h.1
theorem right_all {l : List Opt} (h : right l = true) : ∀ o ∈ l, ok o = true := by
  unfold right at h
  rw [Bool.and_eq_true] at h
  exact List.all_eq_true.1 h.2
theorem right_mk {l : List Opt} (h1 : l.length ≤ 20) (h2 : ∀ o ∈ l, ok o = true) : right l = true := by
  unfold right
  rw [Bool.and_eq_true]
  exact ⟨decide_eq_true h1, List.all_eq_true.2 h2⟩
theorem right_front {a b : List Opt} (h : right (a ++ b) = true) : right a = true :=
  right_mk (by have := right_len h; rw [List.length_append] at this; omega) fun o ho => right_all h o (List.mem_append_left _ ho)
theorem right_snoc {a : List Opt} {o : Opt} (h : right a = true) : right (a ++ [o]) = (decide (a.length < 20) && ok o) := by
  rw [Bool.eq_iff_iff, Bool.and_eq_true]
  constructor
  · intro h2
    refine ⟨decide_eq_true ?_, right_all h2 o (by simp)⟩
    have := right_len h2
    simp at this
    omega
  · rintro ⟨h1, h2⟩
    have h1 := of_decide_eq_true h1
    refine right_mk (by simp; omega) fun x hx => ?_
    rcases List.mem_append.1 hx with hx | hx
    · exact right_all h x hx
    · rw [List.mem_singleton.1 hx]; exact h2
theorem acc_nil (out : List Opt) : acc out [] = if right out = true then some out else none := by
  unfold acc
  rw [rd_nil]
  simp
theorem acc_one (out : List Opt) (c : UInt8) : acc out [c] = none := by
  unfold acc
  rw [rd_one]
  rfl
theorem acc_bad (out : List Opt) {k n : UInt8} {r : List UInt8} (h : n.toNat < 2 ∨ r.length + 2 < n.toNat) : acc out (k :: n :: r) = none := by
  unfold acc
  rw [rd_bad h]
  rfl
theorem acc_step (out : List Opt) {k n : UInt8} {r : List UInt8} (h : ¬ (n.toNat < 2 ∨ r.length + 2 < n.toNat)) : acc out (k :: n :: r) = acc (out ++ [⟨(k.toNat : Int), txt (r.take (n.toNat - 2))⟩]) (r.drop (n.toNat - 2)) := by
  unfold acc
  rw [rd_step h]
  cases rd (r.drop (n.toNat - 2)) with
  | none => rfl
  | some L => simp
theorem acc_wrong {out : List Opt} (l : List UInt8) (h : right out = false) : acc out l = none := by
  unfold acc
  cases rd l with
  | none => rfl
  | some L =>
    rw [Option.bind_some, if_neg]
    intro h2
    rw [right_front h2] at h
    cases h
theorem acc_long (out : List Opt) {k n : UInt8} {r : List UInt8} (h : 22 < n.toNat) : acc out (k :: n :: r) = none := by
  by_cases hb : n.toNat < 2 ∨ r.length + 2 < n.toNat
  · exact acc_bad out hb
  · rw [acc_step out hb]
    refine acc_wrong _ ?_
    rw [← Bool.not_eq_true]
    intro hr
    have ho := right_all hr ⟨(k.toNat : Int), txt (r.take (n.toNat - 2))⟩ (by simp)
    have h3 := (of_decide_eq_true ho).2.2
    rw [txt_size, List.length_take] at h3
    omega
theorem acc_right {out L : List Opt} {l : List UInt8} (h : acc out l = some L) : right L = true := by
  unfold acc at h
  cases hr : rd l with
  | none => rw [hr] at h; cases h
  | some M =>
    rw [hr, Option.bind_some] at h
    by_cases hq : right (out ++ M) = true
    · rw [if_pos hq] at h
      cases h
      exact hq
    · rw [if_neg hq] at h
      cases h
theorem one_len (o : Opt) : (one o).length = o.data.size + 2 := by
  unfold one
  rw [List.length_append, Array.length_toList]
  show 2 + o.data.size = _
  omega
theorem bytes_snoc (l : List Opt) (o : Opt) : bytes (l ++ [o]) = bytes l ++ one o := by simp [bytes]
theorem bytes_cons (o : Opt) (l : List Opt) : bytes (o :: l) = one o ++ bytes l := by simp [bytes]
theorem bytes_len {l : List Opt} (h : ∀ o ∈ l, ok o = true) : (bytes l).length ≤ 22 * l.length := by
  induction l with
  | nil => simp [bytes]
  | cons o l ih =>
    have h1 := (of_decide_eq_true (h o (by simp))).2.2
    have h2 := ih fun x hx => h x (List.mem_cons_of_mem _ hx)
    rw [bytes_cons, List.length_append, one_len, List.length_cons]
    omega
theorem rd_front {o : Opt} (h : ok o = true) (r : List UInt8) : rd (one o ++ r) = (rd r).map fun L => o :: L := by
  have h' := of_decide_eq_true h
  obtain ⟨k, d⟩ := o
  dsimp only at h'
  have hd : d.data.toList.length = d.size := by rw [Array.length_toList]; rfl
  have hk : ((UInt8.ofNat k.toNat).toNat : Int) = k := by
    have : (UInt8.ofNat k.toNat).toNat = k.toNat := by simp; omega
    omega
  have hn : (UInt8.ofNat (d.size + 2)).toNat = d.size + 2 := by simp; omega
  show rd (UInt8.ofNat k.toNat :: UInt8.ofNat (d.size + 2) :: (d.data.toList ++ r)) = _
  rw [rd_step (by rw [hn, List.length_append]; omega), hn, hk, Nat.add_sub_cancel, List.drop_left' hd, List.take_left' hd]
  rfl
theorem rd_bytes {l : List Opt} (h : ∀ o ∈ l, ok o = true) : rd (bytes l) = some l := by
  induction l with
  | nil => exact rd_nil
  | cons o l ih => rw [bytes_cons, rd_front (h o (by simp)), ih fun x hx => h x (List.mem_cons_of_mem _ hx)]; rfl
/-- Right options come back from their bytes. -/
theorem acc_bytes {l : List Opt} (h : right l = true) : acc [] (bytes l) = some l := by
  unfold acc
  rw [rd_bytes (right_all h), Option.bind_some, List.nil_append, if_pos h]
theorem bytes_rd (m : Nat) : ∀ (u : List UInt8) (L : List Opt), u.length ≤ m → rd u = some L → bytes L = u := by
  induction m with
  | zero =>
    intro u L hu h
    rw [List.eq_nil_of_length_eq_zero (l := u) (by omega), rd_nil] at h
    cases h
    rw [List.eq_nil_of_length_eq_zero (l := u) (by omega)]
    rfl
  | succ m ih =>
    intro u L hu h
    rcases u with _ | ⟨k, _ | ⟨n, r⟩⟩
    · rw [rd_nil] at h; cases h; rfl
    · rw [rd_one] at h; cases h
    · by_cases hb : n.toNat < 2 ∨ r.length + 2 < n.toNat
      · rw [rd_bad hb] at h; cases h
      · rw [rd_step hb] at h
        cases hr : rd (r.drop (n.toNat - 2)) with
        | none => rw [hr] at h; cases h
        | some M =>
          rw [hr] at h
          cases h
          have h2 := ih _ _ (by rw [List.length_drop]; simp at hu; omega) hr
          have h3 : (txt (r.take (n.toNat - 2))).size + 2 = n.toNat := by rw [txt_size, List.length_take]; omega
          rw [bytes_cons, h2]
          unfold one
          dsimp only
          rw [h3, data_txt]
          simp
/-- What is read of bytes is told by just these. -/
theorem bytes_acc {u : List UInt8} {L : List Opt} (h : acc [] u = some L) : told L = u := by
  have hr := acc_right h
  unfold told
  rw [if_pos hr]
  unfold acc at h
  cases hq : rd u with
  | none => rw [hq] at h; cases h
  | some M =>
    rw [hq, Option.bind_some, List.nil_append] at h
    have h2 := bytes_rd _ u M (Nat.le_refl _) hq
    by_cases hm : right M = true
    · rw [if_pos hm] at h
      cases h
      exact h2
    · rw [if_neg hm] at h; cases h
/-- A packet. -/
structure Pk where
  code : Int
  id : Int
  data : ByteArray
def pok (p : Pk) : Bool := decide (0 ≤ p.code ∧ p.code ≤ 255 ∧ 0 ≤ p.id ∧ p.id ≤ 255 ∧ p.data.size ≤ 250)
def phead (p : Pk) : List UInt8 := [UInt8.ofNat p.code.toNat, UInt8.ofNat p.id.toNat, UInt8.ofNat ((p.data.size + 4) / 256), UInt8.ofNat (p.data.size + 4)]
def ptold (p : Pk) : List UInt8 := if pok p = true then phead p ++ p.data.data.toList else []
/-- What is read, and a code. -/
structure Out where
  pk : Pk
  code : Int
def no (c : Int) : Out := ⟨⟨0, 0, ⟨#[]⟩⟩, c⟩
def pread (l : List UInt8) : Out :=
  if 8000 < l.length then no 2 else
  match l with
  | a :: b :: c :: d :: r => if 256 * c.toNat + d.toNat < 4 ∨ 254 < 256 * c.toNat + d.toNat ∨ r.length + 4 < 256 * c.toNat + d.toNat then no 3 else ⟨⟨(a.toNat : Int), (b.toNat : Int), txt (r.take (256 * c.toNat + d.toNat - 4))⟩, 0⟩
  | _ => no 4
theorem pread_long {l : List UInt8} (h : 8000 < l.length) : pread l = no 2 := by unfold pread; rw [if_pos h]
theorem pread_short {l : List UInt8} (h : l.length < 4) : pread l = no 4 := by
  unfold pread
  rw [if_neg (by omega)]
  rcases l with _ | ⟨a, _ | ⟨b, _ | ⟨c, _ | ⟨d, r⟩⟩⟩⟩
  · rfl
  · rfl
  · rfl
  · rfl
  · simp at h; omega
theorem pread_bad {a b c d : UInt8} {r : List UInt8} (h8 : r.length + 4 ≤ 8000) (h : 256 * c.toNat + d.toNat < 4 ∨ 254 < 256 * c.toNat + d.toNat ∨ r.length + 4 < 256 * c.toNat + d.toNat) : pread (a :: b :: c :: d :: r) = no 3 := by
  unfold pread
  rw [if_neg (by simp; omega)]
  dsimp only
  rw [if_pos h]
theorem pread_good {a b c d : UInt8} {r : List UInt8} (h8 : r.length + 4 ≤ 8000) (h : ¬ (256 * c.toNat + d.toNat < 4 ∨ 254 < 256 * c.toNat + d.toNat ∨ r.length + 4 < 256 * c.toNat + d.toNat)) :
    pread (a :: b :: c :: d :: r) = ⟨⟨(a.toNat : Int), (b.toNat : Int), txt (r.take (256 * c.toNat + d.toNat - 4))⟩, 0⟩ := by
  unfold pread
  rw [if_neg (by simp; omega)]
  dsimp only
  rw [if_neg h]
end Go.Proofs.YtghopihgnmnlcaaGreatDoor.Op
namespace Go.Proofs.YtghopihgnmnlcaaGreatDoor
open Go.RowKit
/-- The cells of options. -/
def ocells (fs : List Op.Opt) : List Value := fs.flatMap fun f => [.int .i64 f.kind, .string f.data]
theorem ocells_len (fs : List Op.Opt) : (ocells fs).length = fs.length * 2 := by
  induction fs with
  | nil => rfl
  | cons f fs ih => simp [ocells] at ih ⊢; omega
theorem ocells_append (fs gs : List Op.Opt) : ocells (fs ++ gs) = ocells fs ++ ocells gs := by simp [ocells]
theorem ocells_get (fs : List Op.Opt) (i : Nat) (f : Op.Opt) (h : fs[i]? = some f) : (ocells fs)[i * 2]? = some (.int .i64 f.kind) ∧ (ocells fs)[i * 2 + 1]? = some (.string f.data) := by
  induction fs generalizing i with
  | nil => simp at h
  | cons d fs ih =>
    cases i with
    | zero =>
      simp at h
      subst h
      exact ⟨rfl, rfl⟩
    | succ i =>
      have := ih i (by simpa using h)
      have e : ocells (d :: fs) = .int .i64 d.kind :: .string d.data :: ocells fs := rfl
      rw [e, show (i + 1) * 2 = i * 2 + 2 by omega]
      exact this
theorem oinfo : ∃ i, Tryz.prog.info? 118 = some i ∧ i.zero = some (.agg #[.int .i64 0, .string ⟨#[]⟩]) ∧ i.size = 2 ∧ i.bytes = 24 := by
  have h : (Tryz.prog.info? 118).map (fun i => (i.zero, i.size, i.bytes)) = some (some (.agg #[.int .i64 0, .string ⟨#[]⟩]), 2, 24) := by kernel_rfl
  obtain ⟨i, hi, hzz⟩ := Option.map_eq_some_iff.1 h
  simp only [Prod.mk.injEq] at hzz
  exact ⟨i, hi, hzz.1, hzz.2.1, hzz.2.2⟩
/-- A row of options, of whatever kind: it holds these. -/
def HoldsO (w : World) (v : Value) (F : List Op.Opt) : Prop :=
  (∃ ad cp, v = .slice ad 0 cp ∧ F = []) ∨ ∃ g cp cur, v = .slice (some ⟨g, 0, none⟩) F.length cp ∧ w.heap[g]? = some (.cells cur 118) ∧ F.length * 2 ≤ cur.size ∧ ∀ j, j < F.length * 2 → cur[j]? = (ocells F)[j]?
theorem HoldsO.own {w : World} {base : Nat} {v : Value} {F : List Op.Opt} (h : w.ownsRow base 118 2 v F.length (ocells F)) : HoldsO w v F := by
  rcases h.2 with ⟨h1, h2⟩ | ⟨g, cap, cur, h1, _, h3, h4, _, h6, h7⟩
  · exact Or.inl ⟨_, _, h1, List.eq_nil_of_length_eq_zero h2⟩
  · refine Or.inr ⟨g, cap, cur, h1, h3, by rw [h6]; omega, fun j hj => ?_⟩
    rw [← h7, List.getElem?_take, if_pos hj, Array.getElem?_toList]
theorem HoldsO.below {n : Nat} {w w' : World} {v : Value} {F : List Op.Opt} (h : HoldsO w v F) (hb : Below n w w') (hn : n = w.heap.size) : HoldsO w' v F := by
  subst hn
  exact h.imp id fun ⟨g, cp, cur, h1, h2, h3⟩ => ⟨g, cp, cur, h1, (hb.block g (Array.getElem?_eq_some_iff.1 h2).1).trans h2, h3⟩
theorem HoldsO.form {w : World} {v : Value} {F : List Op.Opt} (h : HoldsO w v F) : ∃ ad cp, v = .slice ad F.length cp := by
  rcases h with ⟨ad, cp, h1, h2⟩ | ⟨g, cp, cur, h1, _⟩
  · exact ⟨ad, cp, by rw [h1, h2]; rfl⟩
  · exact ⟨_, _, h1⟩
theorem holdsO_nil (w : World) (ad : Option Addr) (cp : Nat) : HoldsO w (.slice ad 0 cp) [] := Or.inl ⟨ad, cp, rfl, rfl⟩
/-- The ways of an option: its kind too small, too great, its text too long, or right. -/
theorem ok_ways (o : Op.Opt) (P : Prop) (h1 : o.kind < 1 → Op.ok o = false → P) (h2 : 1 ≤ o.kind → 255 < o.kind → Op.ok o = false → P) (h3 : 1 ≤ o.kind → o.kind ≤ 255 → 20 < o.data.size → Op.ok o = false → P)
    (h4 : 1 ≤ o.kind → o.kind ≤ 255 → o.data.size ≤ 20 → Op.ok o = true → P) : P := by
  by_cases a : 1 ≤ o.kind
  · by_cases b : o.kind ≤ 255
    · by_cases c : o.data.size ≤ 20
      · exact h4 a b c (decide_eq_true ⟨a, b, c⟩)
      · exact h3 a b (by omega) (decide_eq_false (by omega))
    · exact h2 a (by omega) (decide_eq_false (by omega))
  · exact h1 (by omega) (decide_eq_false (by omega))
theorem right_false {F : List Op.Opt} {k : Nat} (hk : k < F.length) (h : Op.ok F[k] = false) : Op.right F = false := by
  rw [← Bool.not_eq_true]
  intro hr
  have := Op.right_all hr F[k] (List.getElem_mem hk)
  rw [h] at this
  cases this
theorem right_true {F : List Op.Opt} (hl : F.length ≤ 20) (h : ∀ k (hk : k < F.length), Op.ok F[k] = true) : Op.right F = true := by
  refine Op.right_mk hl fun o ho => ?_
  obtain ⟨k, hk, rfl⟩ := List.getElem_of_mem ho
  exact h k hk
theorem right_long {F : List Op.Opt} (hl : 20 < F.length) : Op.right F = false := by
  rw [← Bool.not_eq_true]
  intro hr
  have := Op.right_len hr
  omega
set_option maxHeartbeats 1000000 in
theorem implRight0 (ad : Option Addr) (cp : Nat) (w : World) : Calls Tryz.prog 114 #[.slice ad 0 cp] w fun e w' => e = .returned (.bool true) ∧ Below w.heap.size w w' := by
  go_enter Tryz.func114, Tryz.ntmps114
  go_wp2_with fail
  go_loopw [10] (fun y wr => y = .int .i64 0 ∧ wr = w) (fun _ _ => 0)
  case atStart => exact ⟨rfl, rfl⟩
  case round =>
    obtain ⟨rfl, rfl⟩ := hrel
    go_wp2
    go_ret
    exact ⟨rfl, Below.refl _ _⟩
set_option maxHeartbeats 2000000 in
theorem implRightG (g cp : Nat) (F : List Op.Opt) (cur : Array Value) (w : World) (hm : F.length ≤ maxLen) (h1 : w.heap[g]? = some (.cells cur 118)) (a1 : ∀ j, j < F.length * 2 → cur[j]? = (ocells F)[j]?) :
    Calls Tryz.prog 114 #[.slice (some ⟨g, 0, none⟩) F.length cp] w fun e w' => e = .returned (.bool (Op.right F)) ∧ Below w.heap.size w w' := by
  unfold maxLen at hm
  have hl1 : g < w.heap.size := (Array.getElem?_eq_some_iff.1 h1).1
  obtain ⟨n, hn⟩ : ∃ n, F.length = n := ⟨_, rfl⟩
  by_cases h20 : 20 < n
  · have d0 : (20 : Int) < (n : Int) := by omega
    rw [right_long (by omega), hn]
    go_enter Tryz.func114, Tryz.ntmps114
    go_wp2
    go_ret
    exact ⟨rfl, Below.refl _ _⟩
  · have d0 : ¬ ((20 : Int) < (n : Int)) := by omega
    have HA : Hid (∀ i (hi : i < n), cur[i * 2]? = some (.int .i64 (F[i]'(by omega)).kind) ∧ cur[i * 2 + 1]? = some (.string (F[i]'(by omega)).data)) := by
      refine hide fun i hi => ?_
      have q := ocells_get F i (F[i]'(by omega)) (List.getElem?_eq_getElem (by omega))
      exact ⟨(a1 _ (by omega)).trans q.1, (a1 _ (by omega)).trans q.2⟩
    have HT : Hid ((∀ k (hk : k < n), Op.ok (F[k]'(by omega)) = true) → Op.right F = true) := hide fun h => right_true (by omega) fun k hk => h k (by omega)
    have HF : Hid (∀ k (hk : k < n), Op.ok (F[k]'(by omega)) = false → Op.right F = false) := hide fun k hk h => right_false (by omega) h
    rw [hn]
    clear a1 hm
    generalize Op.right F = RT at *
    go_enter Tryz.func114, Tryz.ntmps114
    go_wp2_with fail
    go_loopw [10] (fun y wr => ∃ (i : Nat), i ≤ n ∧ y = .int .i64 i ∧ (∀ k (hk : k < i) (hkn : k < n), Op.ok (F[k]'(by omega)) = true) ∧ Below w.heap.size w wr) (fun y _ => n - (intOf y).toNat)
    case atStart => exact ⟨0, Nat.zero_le _, rfl, fun k hk => by omega, Below.refl _ _⟩
    case round =>
      obtain ⟨i, hi, rfl, hall, hb⟩ := hrel
      have hbs := hb.size
      by_cases hlt : i < n
      · have d1 : (i : Int) < (n : Int) := by omega
        obtain ⟨q1, q2⟩ := unhide HA i hlt
        have e1 := (hb.block g hl1).trans h1
        have hf := unhide HF i hlt
        have hall2 : Op.ok (F[i]'(by omega)) = true → ∀ k (hk : k < i + 1) (hkn : k < n), Op.ok (F[k]'(by omega)) = true := by
          intro h k hk hkn
          rcases Nat.lt_or_ge k i with hk2 | hk2
          · exact hall k hk2 hkn
          · have : k = i := by omega
            subst this
            exact h
        generalize hO : F[i]'(by omega) = o at *
        have k0 : wr.cell? ⟨g, i * 2, none⟩ = some (.int .i64 o.kind) := by rw [cell_of_row _ _ _ _ _ _ e1]; exact q1
        have k1 : wr.cell? ⟨g, i * 2 + 1, none⟩ = some (.string o.data) := by rw [cell_of_row _ _ _ _ _ _ e1]; exact q2
        have HAL := hide hall2
        have HFF := hide hf
        have C := hide fun v => byteR o.kind v
        obtain ⟨kd, dt⟩ := o
        dsimp only at k0 k1 C
        clear q1 q2 e1 hall hall2 hf hO HA HT HF h1
        refine ok_ways ⟨kd, dt⟩ _ (fun a r => ?_) (fun a b r => ?_) (fun a b c r => ?_) (fun a b c r => ?_)
        all_goals dsimp only at *
        · have f1 : decide (kd < 1) = true := decide_eq_true a
          have hR := unhide HFF r
          subst hR
          clear HFF HAL r a
          go_wp2
          go_ret
          exact ⟨rfl, hb.alloc hbs _⟩
        · have f1 : decide (kd < 1) = false := decide_eq_false (by omega)
          have hR := unhide HFF r
          subst hR
          rw [show (decide (0 ≤ kd) && decide (kd ≤ 255)) = false by simp; omega] at C
          clear HFF HAL r a b
          go_wp2_with (first | (go_at_call 82; refine (unhide C _).mono ?_; rintro e w2 ⟨rfl, rfl⟩))
          go_ret
          exact ⟨rfl, hb.alloc hbs _⟩
        · have f1 : decide (kd < 1) = false := decide_eq_false (by omega)
          have f2 : decide ((20 : Int) < (dt.size : Int)) = true := decide_eq_true (by omega)
          have hR := unhide HFF r
          subst hR
          rw [show (decide (0 ≤ kd) && decide (kd ≤ 255)) = true by simp; omega] at C
          clear HFF HAL r a b c
          go_wp2_with (first | (go_at_call 82; refine (unhide C _).mono ?_; rintro e w2 ⟨rfl, rfl⟩))
          go_ret
          exact ⟨rfl, hb.alloc hbs _⟩
        · have f1 : decide (kd < 1) = false := decide_eq_false (by omega)
          have f2 : decide ((20 : Int) < (dt.size : Int)) = false := decide_eq_false (by omega)
          have hR := unhide HAL r
          have HR := hide hR
          rw [show (decide (0 ≤ kd) && decide (kd ≤ 255)) = true by simp; omega] at C
          clear HFF HAL r a b c hR
          go_wp2_with (first | (go_at_call 82; refine (unhide C _).mono ?_; rintro e w2 ⟨rfl, rfl⟩))
          go_roundw
          case rel => exact ⟨i + 1, by omega, by go_num, unhide HR, hb.alloc hbs _⟩
          case measure => simp [intOf]; omega
      · have e : i = n := by omega
        subst e
        have d1 : ¬ ((i : Int) < (i : Int)) := by omega
        have hR := unhide HT fun k hk => hall k hk hk
        subst hR
        go_wp2
        go_ret
        exact ⟨rfl, hb⟩
theorem implRightAll (v : Value) (F : List Op.Opt) (w : World) (hm : F.length ≤ maxLen) (h : HoldsO w v F) :
    Calls Tryz.prog 114 #[v] w fun e w' => e = .returned (.bool (Op.right F)) ∧ Below w.heap.size w w' := by
  rcases h with ⟨ad, cp, rfl, rfl⟩ | ⟨g, cp, cur, rfl, h2, _, h4⟩
  · exact implRight0 ad cp w
  · exact implRightG g cp F cur w hm h2 h4
end Go.Proofs.YtghopihgnmnlcaaGreatDoor
namespace Go.Proofs.YtghopihgnmnlcaaGreatDoor
open Go.RowKit
set_option maxHeartbeats 400000 in
theorem eqFd (x : Int) (t : ByteArray) (w : World) :
    Calls Tryz.prog 104 #[.agg #[.int .i64 x, .string t], .agg #[.int .i64 x, .string t]] w fun e w' => e = .returned (.bool true) ∧ Below w.heap.size w w' := by
  go_enter Tryz.func104, Tryz.ntmps104
  go_wp2
  go_ret
  exact ⟨rfl, ((Below.refl _ _).alloc (Nat.le_refl _) _).alloc (by simp) _⟩
set_option maxHeartbeats 2000000 in
theorem eqS0 (a1 a2 : Option Addr) (c1 c2 : Nat) (w : World) :
    Calls Tryz.prog 59 #[.slice a1 0 c1, .slice a2 0 c2] w fun e w' => e = .returned (.bool true) ∧ Below w.heap.size w w' := by
  go_enter Tryz.func59, Tryz.ntmps59
  go_wp2_with fail
  go_loopw [5] (fun y wr => y = .int .i64 0 ∧ wr = w) (fun _ _ => 0)
  case atStart => exact ⟨rfl, rfl⟩
  case round =>
    obtain ⟨rfl, rfl⟩ := hrel
    go_wp2
    go_ret
    exact ⟨rfl, Below.refl _ _⟩
set_option maxHeartbeats 2000000 in
theorem eqS1 (g1 g2 c1 c2 : Nat) (F : List Op.Opt) (cur1 cur2 : Array Value) (w : World) (hF : F.length ≤ 2000000) (h1 : w.heap[g1]? = some (.cells cur1 118)) (h2 : w.heap[g2]? = some (.cells cur2 118))
    (a1 : ∀ j, j < F.length * 2 → cur1[j]? = (ocells F)[j]?) (a2 : ∀ j, j < F.length * 2 → cur2[j]? = (ocells F)[j]?) :
    Calls Tryz.prog 59 #[.slice (some ⟨g1, 0, none⟩) F.length c1, .slice (some ⟨g2, 0, none⟩) F.length c2] w fun e w' => e = .returned (.bool true) ∧ Below w.heap.size w w' := by
  have hl1 : g1 < w.heap.size := (Array.getElem?_eq_some_iff.1 h1).1
  have hl2 : g2 < w.heap.size := (Array.getElem?_eq_some_iff.1 h2).1
  obtain ⟨n, hn⟩ : ∃ n, F.length = n := ⟨_, rfl⟩
  have HA : Hid (∀ i, i < n → ∃ x t, cur1[i * 2]? = some (.int .i64 x) ∧ cur1[i * 2 + 1]? = some (.string t) ∧ cur2[i * 2]? = some (.int .i64 x) ∧ cur2[i * 2 + 1]? = some (.string t)) := by
    refine hide fun i hi => ?_
    have g := ocells_get F i (F[i]'(by omega)) (List.getElem?_eq_getElem (by omega))
    exact ⟨_, _, (a1 _ (by omega)).trans g.1, (a1 _ (by omega)).trans g.2, (a2 _ (by omega)).trans g.1, (a2 _ (by omega)).trans g.2⟩
  rw [hn] at hF ⊢
  clear a1 a2 hn
  go_enter Tryz.func59, Tryz.ntmps59
  go_wp2_with fail
  go_loopw [5] (fun y wr => ∃ (i : Nat), i ≤ n ∧ y = .int .i64 i ∧ Below w.heap.size w wr) (fun y _ => n - (intOf y).toNat)
  case atStart => exact ⟨0, Nat.zero_le _, rfl, Below.refl _ _⟩
  case round =>
    obtain ⟨i, hi, rfl, hb⟩ := hrel
    have hbs := hb.size
    by_cases hlt : i < n
    · have d1 : (i : Int) < (n : Int) := by omega
      obtain ⟨x, t, q1, q2, q3, q4⟩ := unhide HA i hlt
      have e1 := (hb.block g1 hl1).trans h1
      have e2 := (hb.block g2 hl2).trans h2
      have k0 : wr.cell? ⟨g1, i * 2, none⟩ = some (.int .i64 x) := by rw [cell_of_row _ _ _ _ _ _ e1]; exact q1
      have k1 : wr.cell? ⟨g1, i * 2 + 1, none⟩ = some (.string t) := by rw [cell_of_row _ _ _ _ _ _ e1]; exact q2
      have k2 : wr.cell? ⟨g2, i * 2, none⟩ = some (.int .i64 x) := by rw [cell_of_row _ _ _ _ _ _ e2]; exact q3
      have k3 : wr.cell? ⟨g2, i * 2 + 1, none⟩ = some (.string t) := by rw [cell_of_row _ _ _ _ _ _ e2]; exact q4
      have C := hide fun v => eqFd x t v
      clear e1 e2 q1 q2 q3 q4 h1 h2
      go_wp2_with fail
      go_region_with (first
        | (go_at_call 104; refine (unhide C _).mono ?_; rintro e w2 ⟨rfl, hb2⟩))
      all_goals
        go_wp2_with fail
        go_roundw
        case rel => exact ⟨i + 1, by omega, by go_num, hb.trans (((Below.refl _ _).drew.trans hb2).mono hbs)⟩
        case measure => simp [intOf]; omega
    · have e : i = n := by omega
      subst e
      have d1 : ¬ ((i : Int) < (i : Int)) := by omega
      go_wp2
      go_ret
      exact ⟨rfl, hb⟩
theorem eqS (v1 v2 : Value) (F : List Op.Opt) (w : World) (hF : F.length ≤ 2000000) (h1 : HoldsO w v1 F) (h2 : HoldsO w v2 F) :
    Calls Tryz.prog 59 #[v1, v2] w fun e w' => e = .returned (.bool true) ∧ Below w.heap.size w w' := by
  rcases h1 with ⟨ad1, cp1, rfl, e⟩ | ⟨g1, cp1, cur1, rfl, q1, q2, q3⟩
  · subst e
    rcases h2 with ⟨ad2, cp2, rfl, _⟩ | ⟨g2, cp2, cur2, rfl, _⟩
    · exact eqS0 _ _ _ _ w
    · exact eqS0 _ _ _ _ w
  · rcases h2 with ⟨ad2, cp2, rfl, e⟩ | ⟨g2, cp2, cur2, rfl, r1, r2, r3⟩
    · subst e
      exact eqS0 _ _ _ _ w
    · exact eqS1 g1 g2 cp1 cp2 F cur1 cur2 w hF q1 r1 q3 r3
end Go.Proofs.YtghopihgnmnlcaaGreatDoor
