/- A reading of bytes, the program's: some bytes are taken off its rest, or it tells what lacks; only the reading is turned. -/
import Derived.Test.YtgelbobocjgdaaaDoorLies
import Derived.Test.YtgelbobocjgdaaaDoorOwnB
import Derived.Test.YtgelbobocjgdaaaDoorOpt
namespace Go.Proofs.YtgelbobocjgdaaaDoor
open Go.RowKit
/-- A slice whose bytes lie in block B. -/
def Rest (w : World) (B : Nat) (v : Value) (l : List UInt8) : Prop := ∃ off cap, v = .slice (some ⟨B, off, none⟩) l.length cap ∧ l.length ≤ cap ∧ Lies w B off l
theorem Lies.same {w w' : World} {B off : Nat} {l : List UInt8} (h : Lies w B off l) (hb : w'.heap[B]? = w.heap[B]?) : Lies w' B off l := fun i hi => by
  rw [← h i hi]
  simp [World.cell?, hb]
theorem Rest.same {w w' : World} {B : Nat} {v : Value} {l : List UInt8} (h : Rest w B v l) (hb : w'.heap[B]? = w.heap[B]?) : Rest w' B v l := by
  obtain ⟨off, cap, h1, h2, h3⟩ := h
  exact ⟨off, cap, h1, h2, h3.same hb⟩
theorem Lies.take {w : World} {B off : Nat} {l : List UInt8} (h : Lies w B off l) (n : Nat) : Lies w B off (l.take n) := fun i hi => by
  rw [List.length_take] at hi
  rw [h i (by omega), List.getElem_take]
theorem rg8 {w : World} {B : Nat} {x0 x1 x2 x3 x4 x5 x6 x7 : Value} {T : TypeId} (h : w.heap[B]? = some (.cells #[x0, x1, x2, x3, x4, x5, x6, x7] T)) :
    w.cell? ⟨B, 0, none⟩ = some x0 ∧ w.cell? ⟨B, 1, none⟩ = some x1 ∧ w.cell? ⟨B, 2, none⟩ = some x2 ∧ w.cell? ⟨B, 3, none⟩ = some x3 ∧ w.cell? ⟨B, 4, none⟩ = some x4 ∧ w.cell? ⟨B, 5, none⟩ = some x5 ∧ w.cell? ⟨B, 6, none⟩ = some x6 ∧ w.cell? ⟨B, 7, none⟩ = some x7 ∧ ∀ o, w.frozen? ⟨B, o, none⟩ = false :=
  ⟨by rw [cell_of_row _ _ _ _ _ _ h]; rfl, by rw [cell_of_row _ _ _ _ _ _ h]; rfl, by rw [cell_of_row _ _ _ _ _ _ h]; rfl, by rw [cell_of_row _ _ _ _ _ _ h]; rfl, by rw [cell_of_row _ _ _ _ _ _ h]; rfl, by rw [cell_of_row _ _ _ _ _ _ h]; rfl, by rw [cell_of_row _ _ _ _ _ _ h]; rfl, by rw [cell_of_row _ _ _ _ _ _ h]; rfl, fun o => frz h o⟩
/-- What is wrong, as an error. -/
def wrong (c : Int) : Value := .iface 132 (.agg #[.int .i64 c])
set_option maxHeartbeats 1000000 in
theorem take_short (R n cap size : Nat) (ad : Option Addr) (lk : Int) (x0 x1 x2 x5 x6 x7 : Value) (w : World) (h : n < size) (hR : w.heap[R]? = some (.cells #[x0, x1, x2, .int .i64 lk, .slice ad n cap, x5, x6, x7] 127)) :
    Calls Tryd.prog 110 #[.pointer (some ⟨R, 0, none⟩), .int .i64 size] w fun e w' => e = .returned (.tuple #[.slice none 0 0, wrong lk]) ∧ ∃ k, w' = w.drewN k := by
  obtain ⟨c0, c1, c2, c3, c4, c5, c6, c7, cf⟩ := rg8 hR
  have d1 : (n : Int) < (size : Int) := by omega
  clear hR
  go_enter Tryd.func110, Tryd.ntmps110
  go_wp2_with fail
  go_quiet (fail)
  go_wp2
  go_ret2
  exact ⟨rfl, _, rfl⟩
/-- Some bytes were taken off the rest. -/
def Took (w w' : World) (R B off n size : Nat) (x0 x1 x2 x3 x5 x6 x7 : Value) : Prop :=
  ∃ off' cap', w'.heap[R]? = some (.cells #[x0, x1, x2, x3, .slice (some ⟨B, off', none⟩) (n - size) cap', x5, x6, x7] 127) ∧ n - size ≤ cap' ∧ (n = size ∨ off' = off + size) ∧ Nr R w w'
set_option maxHeartbeats 1000000 in
theorem take_ok (R B off n cap size : Nat) (x0 x1 x2 x3 x5 x6 x7 : Value) (w : World) (h : size ≤ n) (hcap : n ≤ cap) (hR : w.heap[R]? = some (.cells #[x0, x1, x2, x3, .slice (some ⟨B, off, none⟩) n cap, x5, x6, x7] 127)) :
    Calls Tryd.prog 110 #[.pointer (some ⟨R, 0, none⟩), .int .i64 size] w fun e w' => e = .returned (.tuple #[.slice (some ⟨B, off, none⟩) size size, .nilIface]) ∧
      Took w w' R B off n size x0 x1 x2 x3 x5 x6 x7 := by
  obtain ⟨c0, c1, c2, c3, c4, c5, c6, c7, cf⟩ := rg8 hR
  have d1 : ¬ ((n : Int) < (size : Int)) := by omega
  have d2 : (size : Int) ≤ (cap : Int) := by omega
  have d3 : (size : Int) ≤ (n : Int) := by omega
  have d4 : (n : Int) ≤ (cap : Int) := by omega
  have hf := cf 4
  have HR := hide hR
  clear hR cf
  by_cases hc : cap = size
  · subst hc
    obtain rfl : n = cap := by omega
    go_enter Tryd.func110, Tryd.ntmps110
    go_wp2
    go_ret2
    exact ⟨rfl, off, 0, by rw [heap_setCell_same _ _ 4 _ _ _ (unhide HR), Nat.sub_self]; rfl, by omega, Or.inl rfl, (Nr.refl _ _).setCell 4 _⟩
  · go_enter Tryd.func110, Tryd.ntmps110
    go_wp2
    go_ret2
    exact ⟨rfl, off + size, cap - size, by rw [heap_setCell_same _ _ 4 _ _ _ (unhide HR)]; rfl, by omega, Or.inr rfl, (Nr.refl _ _).setCell 4 _⟩
/-- Some bytes were taken off the rest: what is left of it. -/
def TookL (w w' : World) (R B : Nat) (l : List UInt8) (x0 x1 x2 x3 x5 x6 x7 : Value) : Prop :=
  ∃ v', w'.heap[R]? = some (.cells #[x0, x1, x2, x3, v', x5, x6, x7] 127) ∧ Rest w' B v' l ∧ Nr R w w'
theorem took_rest {w w' : World} {R B off size : Nat} {l : List UInt8} {x0 x1 x2 x3 x5 x6 x7 : Value} (h : Took w w' R B off l.length size x0 x1 x2 x3 x5 x6 x7) (hl : Lies w B off l) (hB : B < w.heap.size) (hne : B ≠ R) :
    TookL w w' R B (l.drop size) x0 x1 x2 x3 x5 x6 x7 ∧ Lies w' B off (l.take size) := by
  obtain ⟨off', cap', h1, h2, h3, h4⟩ := h
  have hl' := hl.same (h4.block B hB hne)
  refine ⟨⟨_, h1, ⟨off', cap', by rw [List.length_drop], by rw [List.length_drop]; exact h2, ?_⟩, h4⟩, hl'.take size⟩
  rcases h3 with h3 | h3
  · intro i hi
    rw [List.length_drop] at hi
    omega
  · rw [h3]
    exact hl'.drop size
set_option maxHeartbeats 400000 in
theorem highest0 (w : World) : Calls Tryd.prog 111 #[.slice none 0 0] w fun e w' => e = .returned (.int .i64 0) ∧ w' = w := by
  go_enter Tryd.func111, Tryd.ntmps111
  go_wp2
  go_loop [3, 8] (fun n i => i = .int .i64 0 ∧ n = .int .i64 0) (fun _ _ => 0)
  case atStart => exact ⟨rfl, rfl⟩
  case round =>
    obtain ⟨rfl, rfl⟩ := hrel
    go_wp2
    go_ret
    exact ⟨rfl, rfl⟩
set_option maxHeartbeats 1000000 in
theorem num_short (R B size : Nat) (l : List UInt8) (v : Value) (lk : Int) (x0 x1 x2 x5 x6 x7 : Value) (w : World) (h : l.length < size) (hv : Rest w B v l) (hR : w.heap[R]? = some (.cells #[x0, x1, x2, .int .i64 lk, v, x5, x6, x7] 127)) :
    Calls Tryd.prog 108 #[.pointer (some ⟨R, 0, none⟩), .int .i64 size] w fun e w' => e = .returned (.tuple #[.int .i64 0, wrong lk]) ∧ ∃ k, w' = w.drewN k := by
  obtain ⟨off, cap, rfl, hcap, hl⟩ := hv
  have C := hide (take_short R l.length cap size _ lk x0 x1 x2 x5 x6 x7 w h hR)
  clear hR hl
  go_enter Tryd.func108, Tryd.ntmps108
  go_wp2_with fail
  refine (unhide C).mono ?_
  rintro e w1 ⟨rfl, k, rfl⟩
  go_wp2_with fail
  refine (highest0 _).mono ?_
  rintro e w2 ⟨rfl, rfl⟩
  go_wp2
  go_ret2
  exact ⟨rfl, k, rfl⟩
set_option maxHeartbeats 1000000 in
theorem num_ok (R B size : Nat) (l : List UInt8) (v : Value) (x0 x1 x2 x3 x5 x6 x7 : Value) (w : World) (hs : size ≤ 2) (h : size ≤ l.length) (hB : B < w.heap.size) (hne : B ≠ R) (hv : Rest w B v l) (hR : w.heap[R]? = some (.cells #[x0, x1, x2, x3, v, x5, x6, x7] 127)) :
    Calls Tryd.prog 108 #[.pointer (some ⟨R, 0, none⟩), .int .i64 size] w fun e w' => e = .returned (.tuple #[.int .i64 (numOf (l.take size) : Nat), .nilIface]) ∧ TookL w w' R B (l.drop size) x0 x1 x2 x3 x5 x6 x7 := by
  obtain ⟨off, cap, rfl, hcap, hl⟩ := hv
  have C := hide (take_ok R B off l.length cap size x0 x1 x2 x3 x5 x6 x7 w h hcap hR)
  have HL := hide hl
  have hlen : (l.take size).length = size := by rw [List.length_take]; omega
  have C2 := hide fun v => highest B off size (l.take size) v (by omega)
  rw [hlen] at C2
  generalize numOf (l.take size) = M at *
  clear hR hl hlen
  go_enter Tryd.func108, Tryd.ntmps108
  go_wp2_with fail
  refine (unhide C).mono ?_
  rintro e w1 ⟨rfl, ht⟩
  obtain ⟨ht1, ht2⟩ := took_rest ht (unhide HL) hB hne
  clear ht C
  go_wp2_with fail
  refine (unhide C2 _ ht2).mono ?_
  rintro e w2 ⟨rfl, hw2⟩
  go_wp2
  go_ret2
  exact ⟨rfl, hw2 ▸ ht1⟩
end Go.Proofs.YtgelbobocjgdaaaDoor
