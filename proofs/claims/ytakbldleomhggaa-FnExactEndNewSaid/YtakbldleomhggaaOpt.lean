/- The mathematics of options and packets: which are right, their bytes, what is read of bytes; right ones come back from their bytes; no program, no condition. -/
import Derived.Test.YtakbldleomhggaaTxt
namespace Go.Proofs.Ytakbldleomhggaa.Op
/-- An option: its kind and its text. -/
structure Opt where
  kind : Int
  data : ByteArray
def ok (o : Opt) : Bool := decide (1 ≤ o.kind ∧ o.kind ≤ 255 ∧ o.data.size ≤ 20)
def right (l : List Opt) : Bool := decide (l.length ≤ 20) && l.all ok
def one (o : Opt) : List UInt8 := [UInt8.ofNat o.kind.toNat, UInt8.ofNat (o.data.size + 2)] ++ o.data.data.toList
def bytes (l : List Opt) : List UInt8 := l.flatMap one
def told (l : List Opt) : List UInt8 := if right l = true then bytes l else []
/-- What is read of bytes, right or not. -/
def rd (l : List UInt8) : Option (List Opt) :=
  match l with
  | [] => some []
  | [_] => none
  | k :: n :: r => if _h : n.toNat < 2 ∨ r.length + 2 < n.toNat then none else (rd (r.drop (n.toNat - 2))).map fun L => ⟨(k.toNat : Int), txt (r.take (n.toNat - 2))⟩ :: L
termination_by l.length
decreasing_by simp; omega
/-- What is read behind some options: all, where they are right. -/
def acc (out : List Opt) (l : List UInt8) : Option (List Opt) := (rd l).bind fun L => if right (out ++ L) = true then some (out ++ L) else none
theorem rd_nil : rd [] = some [] := by rw [rd]
theorem rd_one (c : UInt8) : rd [c] = none := by rw [rd]
theorem rd_bad {k n : UInt8} {r : List UInt8} (h : n.toNat < 2 ∨ r.length + 2 < n.toNat) : rd (k :: n :: r) = none := by rw [rd, dif_pos h]
theorem rd_step {k n : UInt8} {r : List UInt8} (h : ¬ (n.toNat < 2 ∨ r.length + 2 < n.toNat)) : rd (k :: n :: r) = (rd (r.drop (n.toNat - 2))).map fun L => ⟨(k.toNat : Int), txt (r.take (n.toNat - 2))⟩ :: L := by rw [rd, dif_neg h]
theorem right_nil : right [] = true := rfl
theorem right_len {l : List Opt} (h : right l = true) : l.length ≤ 20 := by
  unfold right at h
  rw [Bool.and_eq_true] at h
  exact of_decide_eq_true h.1
theorem right_all {l : List Opt} (h : right l = true) : ∀ o ∈ l, ok o = true := by
  unfold right at h
  rw [Bool.and_eq_true] at h
  exact List.all_eq_true.1 h.2
theorem right_mk {l : List Opt} (h1 : l.length ≤ 20) (h2 : ∀ o ∈ l, ok o = true) : right l = true := by
  unfold right
  rw [Bool.and_eq_true]
  exact ⟨decide_eq_true h1, List.all_eq_true.2 h2⟩
theorem right_front {a b : List Opt} (h : right (a ++ b) = true) : right a = true :=
  right_mk (by have := right_len h; rw [List.length_append] at this; omega) fun o ho => right_all h o (List.mem_append_left _ ho)
theorem right_snoc {a : List Opt} {o : Opt} (h : right a = true) : right (a ++ [o]) = (decide (a.length < 20) && ok o) := by
  rw [Bool.eq_iff_iff, Bool.and_eq_true]
  constructor
  · intro h2
    refine ⟨decide_eq_true ?_, right_all h2 o (by simp)⟩
    have := right_len h2
    simp at this
    omega
  · rintro ⟨h1, h2⟩
    have h1 := of_decide_eq_true h1
    refine right_mk (by simp; omega) fun x hx => ?_
    rcases List.mem_append.1 hx with hx | hx
    · exact right_all h x hx
    · rw [List.mem_singleton.1 hx]; exact h2
theorem acc_nil (out : List Opt) : acc out [] = if right out = true then some out else none := by
  unfold acc
  rw [rd_nil]
  simp
theorem acc_one (out : List Opt) (c : UInt8) : acc out [c] = none := by
  unfold acc
  rw [rd_one]
  rfl
theorem acc_bad (out : List Opt) {k n : UInt8} {r : List UInt8} (h : n.toNat < 2 ∨ r.length + 2 < n.toNat) : acc out (k :: n :: r) = none := by
  unfold acc
  rw [rd_bad h]
  rfl
theorem acc_step (out : List Opt) {k n : UInt8} {r : List UInt8} (h : ¬ (n.toNat < 2 ∨ r.length + 2 < n.toNat)) : acc out (k :: n :: r) = acc (out ++ [⟨(k.toNat : Int), txt (r.take (n.toNat - 2))⟩]) (r.drop (n.toNat - 2)) := by
  unfold acc
  rw [rd_step h]
  cases rd (r.drop (n.toNat - 2)) with
  | none => rfl
  | some L => simp
theorem acc_wrong {out : List Opt} (l : List UInt8) (h : right out = false) : acc out l = none := by
  unfold acc
  cases rd l with
  | none => rfl
  | some L =>
    rw [Option.bind_some, if_neg]
    intro h2
    rw [right_front h2] at h
    cases h
theorem acc_long (out : List Opt) {k n : UInt8} {r : List UInt8} (h : 22 < n.toNat) : acc out (k :: n :: r) = none := by
  by_cases hb : n.toNat < 2 ∨ r.length + 2 < n.toNat
  · exact acc_bad out hb
  · rw [acc_step out hb]
    refine acc_wrong _ ?_
    rw [← Bool.not_eq_true]
    intro hr
    have ho := right_all hr ⟨(k.toNat : Int), txt (r.take (n.toNat - 2))⟩ (by simp)
    have h3 := (of_decide_eq_true ho).2.2
    rw [txt_size, List.length_take] at h3
    omega
theorem acc_right {out L : List Opt} {l : List UInt8} (h : acc out l = some L) : right L = true := by
  unfold acc at h
  cases hr : rd l with
  | none => rw [hr] at h; cases h
  | some M =>
    rw [hr, Option.bind_some] at h
    by_cases hq : right (out ++ M) = true
    · rw [if_pos hq] at h
      cases h
      exact hq
    · rw [if_neg hq] at h
      cases h
theorem one_len (o : Opt) : (one o).length = o.data.size + 2 := by
  unfold one
  rw [List.length_append, Array.length_toList]
  show 2 + o.data.size = _
  omega
theorem bytes_snoc (l : List Opt) (o : Opt) : bytes (l ++ [o]) = bytes l ++ one o := by simp [bytes]
theorem bytes_cons (o : Opt) (l : List Opt) : bytes (o :: l) = one o ++ bytes l := by simp [bytes]
theorem bytes_len {l : List Opt} (h : ∀ o ∈ l, ok o = true) : (bytes l).length ≤ 22 * l.length := by
  induction l with
  | nil => simp [bytes]
  | cons o l ih =>
    have h1 := (of_decide_eq_true (h o (by simp))).2.2
    have h2 := ih fun x hx => h x (List.mem_cons_of_mem _ hx)
    rw [bytes_cons, List.length_append, one_len, List.length_cons]
    omega
theorem rd_front {o : Opt} (h : ok o = true) (r : List UInt8) : rd (one o ++ r) = (rd r).map fun L => o :: L := by
  have h' := of_decide_eq_true h
  obtain ⟨k, d⟩ := o
  dsimp only at h'
  have hd : d.data.toList.length = d.size := by rw [Array.length_toList]; rfl
  have hk : ((UInt8.ofNat k.toNat).toNat : Int) = k := by
    have : (UInt8.ofNat k.toNat).toNat = k.toNat := by simp; omega
    omega
  have hn : (UInt8.ofNat (d.size + 2)).toNat = d.size + 2 := by simp; omega
  show rd (UInt8.ofNat k.toNat :: UInt8.ofNat (d.size + 2) :: (d.data.toList ++ r)) = _
  rw [rd_step (by rw [hn, List.length_append]; omega), hn, hk, Nat.add_sub_cancel, List.drop_left' hd, List.take_left' hd]
  rfl
theorem rd_bytes {l : List Opt} (h : ∀ o ∈ l, ok o = true) : rd (bytes l) = some l := by
  induction l with
  | nil => exact rd_nil
  | cons o l ih => rw [bytes_cons, rd_front (h o (by simp)), ih fun x hx => h x (List.mem_cons_of_mem _ hx)]; rfl
/-- Right options come back from their bytes. -/
theorem acc_bytes {l : List Opt} (h : right l = true) : acc [] (bytes l) = some l := by
  unfold acc
  rw [rd_bytes (right_all h), Option.bind_some, List.nil_append, if_pos h]
theorem bytes_rd (m : Nat) : ∀ (u : List UInt8) (L : List Opt), u.length ≤ m → rd u = some L → bytes L = u := by
  induction m with
  | zero =>
    intro u L hu h
    rw [List.eq_nil_of_length_eq_zero (l := u) (by omega), rd_nil] at h
    cases h
    rw [List.eq_nil_of_length_eq_zero (l := u) (by omega)]
    rfl
  | succ m ih =>
    intro u L hu h
    rcases u with _ | ⟨k, _ | ⟨n, r⟩⟩
    · rw [rd_nil] at h; cases h; rfl
    · rw [rd_one] at h; cases h
    · by_cases hb : n.toNat < 2 ∨ r.length + 2 < n.toNat
      · rw [rd_bad hb] at h; cases h
      · rw [rd_step hb] at h
        cases hr : rd (r.drop (n.toNat - 2)) with
        | none => rw [hr] at h; cases h
        | some M =>
          rw [hr] at h
          cases h
          have h2 := ih _ _ (by rw [List.length_drop]; simp at hu; omega) hr
          have h3 : (txt (r.take (n.toNat - 2))).size + 2 = n.toNat := by rw [txt_size, List.length_take]; omega
          rw [bytes_cons, h2]
          unfold one
          dsimp only
          rw [h3, data_txt]
          simp
/-- What is read of bytes is told by just these. -/
theorem bytes_acc {u : List UInt8} {L : List Opt} (h : acc [] u = some L) : told L = u := by
  have hr := acc_right h
  unfold told
  rw [if_pos hr]
  unfold acc at h
  cases hq : rd u with
  | none => rw [hq] at h; cases h
  | some M =>
    rw [hq, Option.bind_some, List.nil_append] at h
    have h2 := bytes_rd _ u M (Nat.le_refl _) hq
    by_cases hm : right M = true
    · rw [if_pos hm] at h
      cases h
      exact h2
    · rw [if_neg hm] at h; cases h
/-- A packet. -/
structure Pk where
  code : Int
  id : Int
  data : ByteArray
def pok (p : Pk) : Bool := decide (0 ≤ p.code ∧ p.code ≤ 255 ∧ 0 ≤ p.id ∧ p.id ≤ 255 ∧ p.data.size ≤ 250)
def phead (p : Pk) : List UInt8 := [UInt8.ofNat p.code.toNat, UInt8.ofNat p.id.toNat, UInt8.ofNat ((p.data.size + 4) / 256), UInt8.ofNat (p.data.size + 4)]
def ptold (p : Pk) : List UInt8 := if pok p = true then phead p ++ p.data.data.toList else []
/-- What is read, and a code. -/
structure Out where
  pk : Pk
  code : Int
def no (c : Int) : Out := ⟨⟨0, 0, ⟨#[]⟩⟩, c⟩
def pread (l : List UInt8) : Out :=
  if 8000 < l.length then no 2 else
  match l with
  | a :: b :: c :: d :: r => if 256 * c.toNat + d.toNat < 4 ∨ 254 < 256 * c.toNat + d.toNat ∨ r.length + 4 < 256 * c.toNat + d.toNat then no 3 else ⟨⟨(a.toNat : Int), (b.toNat : Int), txt (r.take (256 * c.toNat + d.toNat - 4))⟩, 0⟩
  | _ => no 4
theorem pread_long {l : List UInt8} (h : 8000 < l.length) : pread l = no 2 := by unfold pread; rw [if_pos h]
theorem pread_short {l : List UInt8} (h : l.length < 4) : pread l = no 4 := by
  unfold pread
  rw [if_neg (by omega)]
  rcases l with _ | ⟨a, _ | ⟨b, _ | ⟨c, _ | ⟨d, r⟩⟩⟩⟩
  · rfl
  · rfl
  · rfl
  · rfl
  · simp at h; omega
theorem pread_bad {a b c d : UInt8} {r : List UInt8} (h8 : r.length + 4 ≤ 8000) (h : 256 * c.toNat + d.toNat < 4 ∨ 254 < 256 * c.toNat + d.toNat ∨ r.length + 4 < 256 * c.toNat + d.toNat) : pread (a :: b :: c :: d :: r) = no 3 := by
  unfold pread
  rw [if_neg (by simp; omega)]
  dsimp only
  rw [if_pos h]
theorem pread_good {a b c d : UInt8} {r : List UInt8} (h8 : r.length + 4 ≤ 8000) (h : ¬ (256 * c.toNat + d.toNat < 4 ∨ 254 < 256 * c.toNat + d.toNat ∨ r.length + 4 < 256 * c.toNat + d.toNat)) :
    pread (a :: b :: c :: d :: r) = ⟨⟨(a.toNat : Int), (b.toNat : Int), txt (r.take (256 * c.toNat + d.toNat - 4))⟩, 0⟩ := by
  unfold pread
  rw [if_neg (by simp; omega)]
  dsimp only
  rw [if_neg h]
end Go.Proofs.Ytakbldleomhggaa.Op
