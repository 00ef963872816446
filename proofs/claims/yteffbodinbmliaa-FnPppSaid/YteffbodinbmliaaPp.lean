/- The mathematics of packets of protocols: which numbers are protocols, what a packet's head is, what is read of a text; a text comes back from its packet; no program, no condition. -/
import Derived.Test.YteffbodinbmliaaBase
namespace Go.Proofs.Yteffbodinbmliaa.Pp
/-- Is a number a protocol. -/
def ok (x : Int) : Bool := decide (0 ≤ x ∧ x ≤ 65535 ∧ x % 2 = 1 ∧ x / 256 % 2 = 0)
theorem ok_get {x : Int} (h : ok x = true) : ∃ k : Nat, x = k ∧ k < 65536 ∧ k % 2 = 1 ∧ k / 256 % 2 = 0 := by
  have h' := of_decide_eq_true h
  exact ⟨x.toNat, by omega, by omega, by omega, by omega⟩
theorem ok_nat {k : Nat} (h1 : k < 65536) (h2 : k % 2 = 1) (h3 : k / 256 % 2 = 0) : ok (k : Int) = true := decide_eq_true (by omega)
/-- The head of a packet of the protocol k. -/
def head (k : Nat) (a p : Bool) : List UInt8 :=
  (if k = 49185 ∨ a = false then [0xff, 3] else []) ++ (if k = 49185 ∨ p = false ∨ 255 < k then [UInt8.ofNat (k / 256), UInt8.ofNat k] else [UInt8.ofNat k])
theorem head_len (k : Nat) (a p : Bool) : 1 ≤ (head k a p).length ∧ (head k a p).length ≤ 4 := by
  unfold head
  split <;> split <;> simp
/-- What is packed of a text of the protocol x. -/
def pack (x : Int) (l : List UInt8) (a p : Bool) : List UInt8 :=
  if l.length ≤ 8000 ∧ ok x = true then (if (head x.toNat a p).length + l.length ≤ 8000 then head x.toNat a p ++ l else []) else []
/-- What is left of a text behind bytes 0xFF and 3. -/
def rest : List UInt8 → List UInt8
  | [] => []
  | [c] => [c]
  | c :: d :: r => if c = 0xff ∧ d = 3 then r else c :: d :: r
/-- What is read. -/
structure Out where
  proto : Int
  text : List UInt8
  code : Int
deriving DecidableEq
def read : List UInt8 → Out
  | [] => ⟨0, [], 4⟩
  | [c] => if c.toNat % 2 = 1 then ⟨c.toNat, [], 0⟩ else ⟨0, [], 4⟩
  | c :: d :: r => if c.toNat % 2 = 1 then ⟨c.toNat, d :: r, 0⟩ else if d.toNat % 2 = 1 then ⟨(256 * c.toNat + d.toNat : Nat), r, 0⟩ else ⟨0, [], 3⟩
def unpack (l : List UInt8) : Out := if l.length ≤ 8000 then read (rest l) else ⟨0, [], 2⟩
theorem rest_len (l : List UInt8) : (rest l).length ≤ l.length := by
  rcases l with _ | ⟨c, _ | ⟨d, r⟩⟩
  · exact Nat.le_refl _
  · exact Nat.le_refl _
  · rw [show rest (c :: d :: r) = (if c = 0xff ∧ d = 3 then r else c :: d :: r) from rfl]
    split
    · simp; omega
    · exact Nat.le_refl _
theorem read_one {k : Nat} (hk : k < 256) (h2 : k % 2 = 1) (l : List UInt8) : read (UInt8.ofNat k :: l) = ⟨k, l, 0⟩ := by
  have hn : (UInt8.ofNat k).toNat = k := by simp; omega
  rcases l with _ | ⟨d, r⟩
  · simp only [read, hn]; rw [if_pos h2]
  · simp only [read, hn]; rw [if_pos h2]
theorem read_two {k : Nat} (hk : k < 65536) (h2 : k % 2 = 1) (h3 : k / 256 % 2 = 0) (l : List UInt8) : read (UInt8.ofNat (k / 256) :: UInt8.ofNat k :: l) = ⟨k, l, 0⟩ := by
  have hn : (UInt8.ofNat (k / 256)).toNat = k / 256 := by simp; omega
  have hm : (UInt8.ofNat k).toNat = k % 256 := by simp
  simp only [read, hn, hm]
  rw [if_neg (by omega), if_pos (by omega)]
  congr 1
  omega
theorem rest_front (l : List UInt8) : rest (0xff :: 3 :: l) = l := by simp [rest]
theorem rest_even {c : UInt8} (h : c.toNat % 2 = 0) (l : List UInt8) : rest (c :: l) = c :: l := by
  rcases l with _ | ⟨d, r⟩
  · rfl
  · rw [show rest (c :: d :: r) = (if c = 0xff ∧ d = 3 then r else c :: d :: r) from rfl, if_neg]
    rintro ⟨rfl, _⟩
    exact absurd h (by decide)
/-- A text of a protocol comes back from its packet, where that does not begin with bytes 0xFF and 3 that are not the first two. -/
theorem back (x : Int) (l : List UInt8) (a p : Bool) (h : pack x l a p ≠ []) (ho : ¬ (a = true ∧ x = 255 ∧ p = true ∧ ∃ r, l = 3 :: r)) : unpack (pack x l a p) = ⟨x, l, 0⟩ := by
  unfold pack at h ⊢
  split at h
  · rename_i h1
    rw [if_pos h1]
    split at h
    · rename_i h4
      rw [if_pos h4]
      obtain ⟨k, rfl, hk, h2, h3⟩ := ok_get h1.2
      rw [Int.toNat_natCast] at h4 ⊢
      unfold unpack
      rw [if_pos (by rw [List.length_append]; exact h4)]
      have hn : (UInt8.ofNat (k / 256)).toNat = k / 256 := by simp; omega
      unfold head
      by_cases c1 : k = 49185 ∨ a = false
      · rw [if_pos c1]
        by_cases c2 : k = 49185 ∨ p = false ∨ 255 < k
        · rw [if_pos c2]
          exact (congrArg read (rest_front _)).trans (read_two hk h2 h3 l)
        · rw [if_neg c2]
          exact (congrArg read (rest_front _)).trans (read_one (by omega) h2 l)
      · rw [if_neg c1]
        by_cases c2 : k = 49185 ∨ p = false ∨ 255 < k
        · rw [if_pos c2]
          exact (congrArg read (rest_even (by rw [hn]; exact h3) _)).trans (read_two hk h2 h3 l)
        · rw [if_neg c2]
          have hr : rest (UInt8.ofNat k :: l) = UInt8.ofNat k :: l := by
            rcases l with _ | ⟨d, r⟩
            · rfl
            · rw [show rest (UInt8.ofNat k :: d :: r) = (if UInt8.ofNat k = 0xff ∧ d = 3 then r else UInt8.ofNat k :: d :: r) from rfl, if_neg]
              rintro ⟨e1, rfl⟩
              have e2 := congrArg UInt8.toNat e1
              rw [show (UInt8.ofNat k).toNat = k by simp; omega, show (UInt8.toNat 255) = 255 from rfl] at e2
              refine ho ⟨?_, by rw [e2]; rfl, ?_, r, rfl⟩
              · cases a
                · exact absurd (Or.inr rfl) c1
                · rfl
              · cases p
                · exact absurd (Or.inr (Or.inl rfl)) c2
                · rfl
          exact (congrArg read hr).trans (read_one (by omega) h2 l)
    · exact absurd rfl h
  · exact absurd rfl h
end Go.Proofs.Yteffbodinbmliaa.Pp
