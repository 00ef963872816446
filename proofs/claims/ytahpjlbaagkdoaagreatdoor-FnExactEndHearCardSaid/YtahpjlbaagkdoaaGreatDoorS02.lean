/- What the listed variables give the walks: the program's two tables of the automaton and the library's table of blanks as they are laid; no condition. Bytes that lie in memory, read as a number, as a text ; a text as bytes of its own; what lay in memory stands. The mathematics of options and packets: which are right, their bytes, what is read of bytes; right ones come back from their bytes; no program, no condition. A reading of bytes, the program's: some bytes are taken off its rest, or it tells what lacks; only the reading is turned. errors.As at an error that is nil, and at one whose own type is the target's, by its text as it lies in this translation; under the library's variable errors.errorType as it is laid; new memory is made, the target is set. -/
import Derived.Test.YtahpjlbaagkdoaaGreatDoorS00
import Derived.Test.YtahpjlbaagkdoaaGreatDoorS01
import Derived.Deep.DeepCutAuto
import Derived.Lib.AppendStr
import Derived.ArgAppend
import Derived.LaidEql
import Derived.Stop.Asserts
import Derived.RowKitTokens
import Derived.Test.YtahpjlbaagkdoaaGreatDoorShW
namespace Go.Proofs.YtahpjlbaagkdoaaGreatDoor
open Go.ChangeShapes Go.WideShapes Go.ChangeAt Go.RowKit
theorem laidOutF : laidOutB Tryz.prog = true := by kernel_rfl
theorem nxG : Tryz.prog.globalNamed "loop.example/g00351/impl.nextStates" = some 1 := by kernel_rfl
theorem nxG_type : (Tryz.prog.globals[1]?).map (·.type) = some 154 := by kernel_rfl
theorem cells_row : Tryz.prog.cellsOf 153 = 10 := by kernel_rfl
theorem cells_int : Tryz.prog.cellsOf 2 = 1 := by kernel_rfl
theorem nxData : (Rows.laid_loop_example_g00351_impl_nextStates : DataW Unit) = .agg (nxtRows.map fun l => Lib.tabData .i64 l) := by kernel_rfl
theorem nxLens : (nxtRows.all fun l => decide (l.length = 10)) = true := by kernel_rfl
theorem nxT_of {W : World} (h : Lib.VarReads Tryz.prog W "loop.example/g00351/impl.nextStates" Rows.laid_loop_example_g00351_impl_nextStates) : NxT W := by
 rw [nxData] at h
 obtain ⟨g, t, cs, fuel, p, hg, hty, hvar, hd⟩ := h
 obtain rfl := Option.some.inj (nxG.symm.trans hg)
 obtain rfl := Option.some.inj (nxG_type.symm.trans hty)
 intro i s hi hs
 obtain ⟨fuel', d, q, hdi, he⟩ := Lib.array_elem Tryz.underlying154 hd i hi
 rw [List.getElem?_map] at hdi
 obtain ⟨r, hr, rfl⟩ := Option.map_eq_some_iff.1 hdi
 have hrl : r.length = 10 := of_decide_eq_true (List.all_eq_true.1 nxLens r (List.mem_of_getElem? hr))
 rw [cells_row] at he
 have hcs := Lib.cells_of_tab Tryz.underlying153 Tryz.underlying2 cells_int cells_row he
 rw [World.var?_cell hg hvar (i * 10 + s), ← Array.getElem?_toList]
 have e0 := congrArg (·[s]?) hcs
 simp only [List.getElem?_take, List.getElem?_drop, hs, if_true, List.getElem?_map] at e0
 rw [e0]
 unfold nxtAt
 rw [show nxtRows.getD i [] = r by rw [List.getD_eq_getElem?_getD, hr]; rfl, List.getD_eq_getElem?_getD, List.getElem?_eq_getElem (by omega)]
 rfl
theorem spG : Tryz.prog.globalNamed "strings.asciiSpace" = some 2 := by kernel_rfl
theorem spG_type : (Tryz.prog.globals[2]?).map (·.type) = some 189 := by kernel_rfl
theorem cells_tab : Tryz.prog.cellsOf 189 = 256 := by kernel_rfl
theorem cells_u8 : Tryz.prog.cellsOf 5 = 1 := by kernel_rfl
theorem spData : (Rows.laid_strings_asciiSpace : DataW Unit) = Lib.tabData .u8 Lib.asciiSpaceTab := by kernel_rfl
theorem spT_of {W : World} (h : Lib.VarReads Tryz.prog W "strings.asciiSpace" Rows.laid_strings_asciiSpace) : SpT W := by
 rw [spData] at h
 obtain ⟨g, t, cs, fuel, p, hg, hty, hvar, hd⟩ := h
 obtain rfl := Option.some.inj (spG.symm.trans hg)
 obtain rfl := Option.some.inj (spG_type.symm.trans hty)
 intro c hc
 have hcs := Lib.cells_of_tab Tryz.underlying189 Tryz.underlying5 cells_u8 cells_tab hd
 rw [World.var?_cell hg hvar c, ← Array.getElem?_toList, hcs, List.getElem?_map]
 have hl : c < Lib.asciiSpaceTab.length := by rw [Lib.asciiSpaceTab_length]; exact hc
 have := Lib.asciiSpaceTab_at c hc
 rw [List.getD_eq_getElem?_getD, List.getElem?_eq_getElem hl, Option.getD_some] at this
 rw [List.getElem?_eq_getElem hl, Option.map_some, this]
end Go.Proofs.YtahpjlbaagkdoaaGreatDoor
namespace Go.Proofs.YtahpjlbaagkdoaaGreatDoor
open Go.RowKit
theorem len_dat (t : ByteArray) : t.data.toList.length = t.size := by rw [Array.length_toList]; rfl
def Lies (w : World) (B off : Nat) (l : List UInt8) : Prop := ∀ i (h : i < l.length), w.cell? ⟨B, off + i, none⟩ = some (.int .u8 l[i].toNat)
theorem Lies.below {w w' : World} {B off N : Nat} {l : List UInt8} (h : Lies w B off l) (hb : Below N w w') (hB : B < N) : Lies w' B off l :=
 fun i hi => (hb.cell (p := ⟨B, off + i, none⟩) hB).trans (h i hi)
theorem Lies.drop {w : World} {B off : Nat} {l : List UInt8} (h : Lies w B off l) (n : Nat) : Lies w B (off + n) (l.drop n) := fun i hi => by
 rw [List.length_drop] at hi
 rw [Nat.add_assoc, h (n + i) (by omega)]
 simp
theorem or8 (a b : Nat) (ha : a < 256) (hb : b < 256) : bits .or .i64 ((a : Int) * 256) (b : Int) = ((256 * a + b : Nat) : Int) := by
 have h1 : a * 256 ||| b = a * 2 ^ 8 + b := by
  rw [Nat.mul_comm, show (256 : Nat) = 2 ^ 8 from rfl, ← Nat.two_pow_add_eq_or_of_lt (by omega), Nat.mul_comm]
 show IntKind.i64.wrap ((BitVec.ofInt 64 ((a : Int) * 256) ||| BitVec.ofInt 64 (b : Int)).toNat : Int) = _
 rw [show (a : Int) * 256 = ((a * 256 : Nat) : Int) by omega, BitVec.toNat_or, ofInt_u64 (a * 256) (by omega), ofInt_u64 b (by omega), h1, IntKind.wrap_i64]
 omega
def numOf (l : List UInt8) : Nat := l.foldl (fun n c => 256 * n + c.toNat) 0
set_option maxHeartbeats 1000000 in
theorem highest (B off cap : Nat) (l : List UInt8) (w : World) (hl2 : l.length ≤ 2) (hl : Lies w B off l) :
  Calls Tryz.prog 151 #[.slice (some ⟨B, off, none⟩) l.length cap] w fun e w' => e = .returned (.int .i64 (numOf l : Nat)) ∧ w' = w := by
 go_enter Tryz.func151, Tryz.ntmps151
 go_wp2
 go_loop [3, 8] (fun n i => ∃ (k : Nat), k ≤ l.length ∧ i = .int .i64 k ∧ n = .int .i64 (numOf (l.take k) : Nat)) (fun _ i => l.length - (intOf i).toNat)
 case atStart => exact ⟨0, Nat.zero_le _, rfl, rfl⟩
 case round =>
  obtain ⟨k, hk, rfl, rfl⟩ := hrel
  by_cases hlt : k < l.length
  ·have hc := hl k hlt
   have HS : Hid (numOf (l.take (k + 1)) = 256 * numOf (l.take k) + l[k].toNat) := hide (by unfold numOf; rw [List.take_succ_eq_append_getElem hlt, List.foldl_append]; rfl)
   have hk2 : k < 2 := by omega
   have hn : numOf (l.take k) < 256 := by
    rcases l with _ | ⟨c, _ | ⟨d, r⟩⟩
    ·simp at hlt
    ·simp at hlt
     subst hlt
     simp [numOf]
    ·have := c.toNat_lt
     rcases Nat.lt_or_ge k 1 with h | h
     ·have hk0 : k = 0 := by omega
      subst hk0
      simp [numOf]
     ·have hk1 : k = 1 := by omega
      subst hk1
      simpa [numOf] using this
   have ho := or8 (numOf (l.take k)) l[k].toNat hn l[k].toNat_lt
   have HW : Hid (wrap64 (l[k].toNat : Int) = (l[k].toNat : Int)) := hide (by have := l[k].toNat_lt; unfold wrap64; omega)
   generalize numOf (l.take k) = n at *
   have d1 : (k : Int) < (l.length : Int) := by omega
   clear hl
   go_wp2
   go_round
   case rel => exact ⟨k + 1, by omega, by go_num, by rw [unhide HW, ho, unhide HS]⟩
   case measure => simp [intOf]; omega
  ·have HK := hide (List.take_of_length_le (l := l) (i := k) (by omega))
   have d1 : ¬ ((k : Int) < (l.length : Int)) := by omega
   go_wp2
   go_ret
   exact ⟨by rw [unhide HK]; rfl, rfl⟩
theorem bytes_of (t : ByteArray) (W : World) : ∃ cap W', (convert 9 22 (.string t)).run Tryz.prog W = .ok (.slice (some ⟨W.heap.size, 0, none⟩) t.data.toList.length cap) W' ∧ t.data.toList.length ≤ cap ∧ Lies W' W.heap.size 0 t.data.toList ∧ Below W.heap.size W W' ∧ W.heap.size < W'.heap.size := by
 have h := run_bytes_of_string (P := Tryz.prog) W 9 22 5 t Tryz.underlying9 Tryz.underlying22 Tryz.underlying5
 have hg := grownCap_ge W t.size 0 5
 refine ⟨_, _, by rw [len_dat]; exact h, by rw [len_dat]; omega, ?_, (Below.refl _ _).drew.alloc (Nat.le_refl _) _, by simp⟩
 intro i hi
 have hh : (W.drew.alloc (.cells (bytesRow t (grownCap W t.size 0 5)) 5 ((bytesRow t (grownCap W t.size 0 5)).size, (bytesRow t (grownCap W t.size 0 5)).size + 1))).heap[W.heap.size]? = _ := heap_alloc_new W.drew _
 rw [cell_of_row _ _ _ _ _ _ hh]
 have hi' : i < t.size := by rw [← len_dat]; exact hi
 simp [bytesRow, Array.getElem?_append, hi']
theorem conv_lies {w : World} {B off : Nat} {l : List UInt8} (h : Lies w B off l) {cap : Nat} : (convert 22 9 (.slice (some ⟨B, off, none⟩) l.length cap)).run Tryz.prog w = .ok (.string (txt l)) w :=
 run_convert_bytes_back (P := Tryz.prog) w 22 9 5 ⟨B, off, none⟩ cap l Tryz.underlying22 Tryz.underlying5 Tryz.underlying9 (fun j hj => by rw [Addr.add_lit]; exact h j hj)
end Go.Proofs.YtahpjlbaagkdoaaGreatDoor
namespace Go.Proofs.YtahpjlbaagkdoaaGreatDoor.Op
structure Opt where
 kind : Int
 data : ByteArray
def ok (o : Opt) : Bool := decide (1 ≤ o.kind ∧ o.kind ≤ 255 ∧ o.data.size ≤ 20)
def right (l : List Opt) : Bool := decide (l.length ≤ 20) && l.all ok
def one (o : Opt) : List UInt8 := [UInt8.ofNat o.kind.toNat, UInt8.ofNat (o.data.size + 2)] ++ o.data.data.toList
def bytes (l : List Opt) : List UInt8 := l.flatMap one
def told (l : List Opt) : List UInt8 := if right l = true then bytes l else []
def rd (l : List UInt8) : Option (List Opt) :=
 match l with
 | [] => some []
 | [_] => none
 | k :: n :: r => if _h : n.toNat < 2 ∨ r.length + 2 < n.toNat then none else (rd (r.drop (n.toNat - 2))).map fun L => ⟨(k.toNat : Int), txt (r.take (n.toNat - 2))⟩ :: L
termination_by l.length
decreasing_by simp; omega
def acc (out : List Opt) (l : List UInt8) : Option (List Opt) := (rd l).bind fun L => if right (out ++ L) = true then some (out ++ L) else none
theorem rd_nil : rd [] = some [] := by rw [rd]
theorem rd_one (c : UInt8) : rd [c] = none := by rw [rd]
theorem rd_bad {k n : UInt8} {r : List UInt8} (h : n.toNat < 2 ∨ r.length + 2 < n.toNat) : rd (k :: n :: r) = none := by rw [rd, dif_pos h]
theorem rd_step {k n : UInt8} {r : List UInt8} (h : ¬ (n.toNat < 2 ∨ r.length + 2 < n.toNat)) : rd (k :: n :: r) = (rd (r.drop (n.toNat - 2))).map fun L => ⟨(k.toNat : Int), txt (r.take (n.toNat - 2))⟩ :: L := by rw [rd, dif_neg h]
theorem right_len {l : List Opt} (h : right l = true) : l.length ≤ 20 := by
 unfold right at h
 rw [Bool.and_eq_true] at h
 exact of_decide_eq_true h.1
theorem right_all {l : List Opt} (h : right l = true) : ∀ o ∈ l, ok o = true := by
 unfold right at h
 rw [Bool.and_eq_true] at h
 exact List.all_eq_true.1 h.2
theorem right_mk {l : List Opt} (h1 : l.length ≤ 20) (h2 : ∀ o ∈ l, ok o = true) : right l = true := by
 unfold right
 rw [Bool.and_eq_true]
 exact ⟨decide_eq_true h1, List.all_eq_true.2 h2⟩
theorem right_front {a b : List Opt} (h : right (a ++ b) = true) : right a = true :=
 right_mk (by have := right_len h; rw [List.length_append] at this; omega) fun o ho => right_all h o (List.mem_append_left _ ho)
theorem acc_nil (out : List Opt) : acc out [] = if right out = true then some out else none := by
 unfold acc
 rw [rd_nil]
 simp
theorem acc_one (out : List Opt) (c : UInt8) : acc out [c] = none := by
 unfold acc
 rw [rd_one]
 rfl
theorem acc_bad (out : List Opt) {k n : UInt8} {r : List UInt8} (h : n.toNat < 2 ∨ r.length + 2 < n.toNat) : acc out (k :: n :: r) = none := by
 unfold acc
 rw [rd_bad h]
 rfl
theorem acc_step (out : List Opt) {k n : UInt8} {r : List UInt8} (h : ¬ (n.toNat < 2 ∨ r.length + 2 < n.toNat)) : acc out (k :: n :: r) = acc (out ++ [⟨(k.toNat : Int), txt (r.take (n.toNat - 2))⟩]) (r.drop (n.toNat - 2)) := by
 unfold acc
 rw [rd_step h]
 cases rd (r.drop (n.toNat - 2)) with
 | none => rfl
 | some L => simp
theorem acc_wrong {out : List Opt} (l : List UInt8) (h : right out = false) : acc out l = none := by
 unfold acc
 cases rd l with
 | none => rfl
 | some L =>
  rw [Option.bind_some, if_neg]
  intro h2
  rw [right_front h2] at h
  cases h
theorem acc_long (out : List Opt) {k n : UInt8} {r : List UInt8} (h : 22 < n.toNat) : acc out (k :: n :: r) = none := by
 by_cases hb : n.toNat < 2 ∨ r.length + 2 < n.toNat
 ·exact acc_bad out hb
 ·rw [acc_step out hb]
  refine acc_wrong _ ?_
  rw [← Bool.not_eq_true]
  intro hr
  have ho := right_all hr ⟨(k.toNat : Int), txt (r.take (n.toNat - 2))⟩ (by simp)
  have h3 := (of_decide_eq_true ho).2.2
  rw [txt_size, List.length_take] at h3
  omega
theorem acc_right {out L : List Opt} {l : List UInt8} (h : acc out l = some L) : right L = true := by
 unfold acc at h
 cases hr : rd l with
 | none => rw [hr] at h; cases h
 | some M =>
  rw [hr, Option.bind_some] at h
  by_cases hq : right (out ++ M) = true
  ·rw [if_pos hq] at h
   cases h
   exact hq
  ·rw [if_neg hq] at h
   cases h
theorem one_len (o : Opt) : (one o).length = o.data.size + 2 := by
 unfold one
 rw [List.length_append, Array.length_toList]
 show 2 + o.data.size = _
 omega
theorem bytes_snoc (l : List Opt) (o : Opt) : bytes (l ++ [o]) = bytes l ++ one o := by simp [bytes]
theorem bytes_cons (o : Opt) (l : List Opt) : bytes (o :: l) = one o ++ bytes l := by simp [bytes]
theorem bytes_len {l : List Opt} (h : ∀ o ∈ l, ok o = true) : (bytes l).length ≤ 22 * l.length := by
 induction l with
 | nil => simp [bytes]
 | cons o l ih =>
  have h1 := (of_decide_eq_true (h o (by simp))).2.2
  have h2 := ih fun x hx => h x (List.mem_cons_of_mem _ hx)
  rw [bytes_cons, List.length_append, one_len, List.length_cons]
  omega
theorem bytes_rd (m : Nat) : ∀ (u : List UInt8) (L : List Opt), u.length ≤ m → rd u = some L → bytes L = u := by
 induction m with
 | zero =>
  intro u L hu h
  rw [List.eq_nil_of_length_eq_zero (l := u) (by omega), rd_nil] at h
  cases h
  rw [List.eq_nil_of_length_eq_zero (l := u) (by omega)]
  rfl
 | succ m ih =>
  intro u L hu h
  rcases u with _ | ⟨k, _ | ⟨n, r⟩⟩
  ·rw [rd_nil] at h; cases h; rfl
  ·rw [rd_one] at h; cases h
  ·by_cases hb : n.toNat < 2 ∨ r.length + 2 < n.toNat
   ·rw [rd_bad hb] at h; cases h
   ·rw [rd_step hb] at h
    cases hr : rd (r.drop (n.toNat - 2)) with
    | none => rw [hr] at h; cases h
    | some M =>
     rw [hr] at h
     cases h
     have h2 := ih _ _ (by rw [List.length_drop]; simp at hu; omega) hr
     have h3 : (txt (r.take (n.toNat - 2))).size + 2 = n.toNat := by rw [txt_size, List.length_take]; omega
     rw [bytes_cons, h2]
     unfold one
     dsimp only
     rw [h3, data_txt]
     simp
theorem bytes_acc {u : List UInt8} {L : List Opt} (h : acc [] u = some L) : told L = u := by
 have hr := acc_right h
 unfold told
 rw [if_pos hr]
 unfold acc at h
 cases hq : rd u with
 | none => rw [hq] at h; cases h
 | some M =>
  rw [hq, Option.bind_some, List.nil_append] at h
  have h2 := bytes_rd _ u M (Nat.le_refl _) hq
  by_cases hm : right M = true
  ·rw [if_pos hm] at h
   cases h
   exact h2
  ·rw [if_neg hm] at h; cases h
structure Pk where
 code : Int
 id : Int
 data : ByteArray
def pok (p : Pk) : Bool := decide (0 ≤ p.code ∧ p.code ≤ 255 ∧ 0 ≤ p.id ∧ p.id ≤ 255 ∧ p.data.size ≤ 250)
def phead (p : Pk) : List UInt8 := [UInt8.ofNat p.code.toNat, UInt8.ofNat p.id.toNat, UInt8.ofNat ((p.data.size + 4) / 256), UInt8.ofNat (p.data.size + 4)]
def ptold (p : Pk) : List UInt8 := if pok p = true then phead p ++ p.data.data.toList else []
structure Out where
 pk : Pk
 code : Int
def no (c : Int) : Out := ⟨⟨0, 0, ⟨#[]⟩⟩, c⟩
end Go.Proofs.YtahpjlbaagkdoaaGreatDoor.Op
namespace Go.Proofs.YtahpjlbaagkdoaaGreatDoor
open Go.RowKit
def Rest (w : World) (B : Nat) (v : Value) (l : List UInt8) : Prop := ∃ off cap, v = .slice (some ⟨B, off, none⟩) l.length cap ∧ l.length ≤ cap ∧ Lies w B off l
theorem Lies.same {w w' : World} {B off : Nat} {l : List UInt8} (h : Lies w B off l) (hb : w'.heap[B]? = w.heap[B]?) : Lies w' B off l := fun i hi => by
 rw [← h i hi]
 simp [World.cell?, hb]
theorem Rest.same {w w' : World} {B : Nat} {v : Value} {l : List UInt8} (h : Rest w B v l) (hb : w'.heap[B]? = w.heap[B]?) : Rest w' B v l := by
 obtain ⟨off, cap, h1, h2, h3⟩ := h
 exact ⟨off, cap, h1, h2, h3.same hb⟩
theorem Lies.take {w : World} {B off : Nat} {l : List UInt8} (h : Lies w B off l) (n : Nat) : Lies w B off (l.take n) := fun i hi => by
 rw [List.length_take] at hi
 rw [h i (by omega), List.getElem_take]
theorem rg8 {w : World} {B : Nat} {x0 x1 x2 x3 x4 x5 x6 x7 : Value} {T : TypeId} (h : w.heap[B]? = some (.cells #[x0, x1, x2, x3, x4, x5, x6, x7] T)) :
  w.cell? ⟨B, 0, none⟩ = some x0 ∧ w.cell? ⟨B, 1, none⟩ = some x1 ∧ w.cell? ⟨B, 2, none⟩ = some x2 ∧ w.cell? ⟨B, 3, none⟩ = some x3 ∧ w.cell? ⟨B, 4, none⟩ = some x4 ∧ w.cell? ⟨B, 5, none⟩ = some x5 ∧ w.cell? ⟨B, 6, none⟩ = some x6 ∧ w.cell? ⟨B, 7, none⟩ = some x7 ∧ ∀ o, w.frozen? ⟨B, o, none⟩ = false :=
 ⟨by rw [cell_of_row _ _ _ _ _ _ h]; rfl, by rw [cell_of_row _ _ _ _ _ _ h]; rfl, by rw [cell_of_row _ _ _ _ _ _ h]; rfl, by rw [cell_of_row _ _ _ _ _ _ h]; rfl, by rw [cell_of_row _ _ _ _ _ _ h]; rfl, by rw [cell_of_row _ _ _ _ _ _ h]; rfl, by rw [cell_of_row _ _ _ _ _ _ h]; rfl, by rw [cell_of_row _ _ _ _ _ _ h]; rfl, fun o => frz h o⟩
def wrong (c : Int) : Value := .iface 218 (.agg #[.int .i64 c])
set_option maxHeartbeats 1000000 in
theorem take_short (R n cap size : Nat) (ad : Option Addr) (lk : Int) (x0 x1 x2 x5 x6 x7 : Value) (w : World) (h : n < size) (hR : w.heap[R]? = some (.cells #[x0, x1, x2, .int .i64 lk, .slice ad n cap, x5, x6, x7] 213)) :
  Calls Tryz.prog 214 #[.pointer (some ⟨R, 0, none⟩), .int .i64 size] w fun e w' => e = .returned (.tuple #[.slice none 0 0, wrong lk]) ∧ ∃ k, w' = w.drewN k := by
 obtain ⟨c0, c1, c2, c3, c4, c5, c6, c7, cf⟩ := rg8 hR
 have d1 : (n : Int) < (size : Int) := by omega
 clear hR
 go_enter Tryz.func214, Tryz.ntmps214
 go_wp2_with fail
 go_quiet (fail)
 go_wp2
 go_ret2
 exact ⟨rfl, _, rfl⟩
def Took (w w' : World) (R B off n size : Nat) (x0 x1 x2 x3 x5 x6 x7 : Value) : Prop :=
 ∃ off' cap', w'.heap[R]? = some (.cells #[x0, x1, x2, x3, .slice (some ⟨B, off', none⟩) (n - size) cap', x5, x6, x7] 213) ∧ n - size ≤ cap' ∧ (n = size ∨ off' = off + size) ∧ Nr R w w'
set_option maxHeartbeats 1000000 in
theorem take_ok (R B off n cap size : Nat) (x0 x1 x2 x3 x5 x6 x7 : Value) (w : World) (h : size ≤ n) (hcap : n ≤ cap) (hR : w.heap[R]? = some (.cells #[x0, x1, x2, x3, .slice (some ⟨B, off, none⟩) n cap, x5, x6, x7] 213)) :
  Calls Tryz.prog 214 #[.pointer (some ⟨R, 0, none⟩), .int .i64 size] w fun e w' => e = .returned (.tuple #[.slice (some ⟨B, off, none⟩) size size, .nilIface]) ∧
   Took w w' R B off n size x0 x1 x2 x3 x5 x6 x7 := by
 obtain ⟨c0, c1, c2, c3, c4, c5, c6, c7, cf⟩ := rg8 hR
 have d1 : ¬ ((n : Int) < (size : Int)) := by omega
 have d2 : (size : Int) ≤ (cap : Int) := by omega
 have d3 : (size : Int) ≤ (n : Int) := by omega
 have d4 : (n : Int) ≤ (cap : Int) := by omega
 have hf := cf 4
 have HR := hide hR
 clear hR cf
 by_cases hc : cap = size
 ·subst hc
  obtain rfl : n = cap := by omega
  go_enter Tryz.func214, Tryz.ntmps214
  go_wp2
  go_ret2
  exact ⟨rfl, off, 0, by rw [heap_setCell_same _ _ 4 _ _ _ (unhide HR), Nat.sub_self]; rfl, by omega, Or.inl rfl, (Nr.refl _ _).setCell 4 _⟩
 ·go_enter Tryz.func214, Tryz.ntmps214
  go_wp2
  go_ret2
  exact ⟨rfl, off + size, cap - size, by rw [heap_setCell_same _ _ 4 _ _ _ (unhide HR)]; rfl, by omega, Or.inr rfl, (Nr.refl _ _).setCell 4 _⟩
def TookL (w w' : World) (R B : Nat) (l : List UInt8) (x0 x1 x2 x3 x5 x6 x7 : Value) : Prop :=
 ∃ v', w'.heap[R]? = some (.cells #[x0, x1, x2, x3, v', x5, x6, x7] 213) ∧ Rest w' B v' l ∧ Nr R w w'
theorem took_rest {w w' : World} {R B off size : Nat} {l : List UInt8} {x0 x1 x2 x3 x5 x6 x7 : Value} (h : Took w w' R B off l.length size x0 x1 x2 x3 x5 x6 x7) (hl : Lies w B off l) (hB : B < w.heap.size) (hne : B ≠ R) :
  TookL w w' R B (l.drop size) x0 x1 x2 x3 x5 x6 x7 ∧ Lies w' B off (l.take size) := by
 obtain ⟨off', cap', h1, h2, h3, h4⟩ := h
 have hl' := hl.same (h4.block B hB hne)
 refine ⟨⟨_, h1, ⟨off', cap', by rw [List.length_drop], by rw [List.length_drop]; exact h2, ?_⟩, h4⟩, hl'.take size⟩
 rcases h3 with h3 | h3
 ·intro i hi
  rw [List.length_drop] at hi
  omega
 ·rw [h3]
  exact hl'.drop size
set_option maxHeartbeats 400000 in
theorem highest0 (w : World) : Calls Tryz.prog 151 #[.slice none 0 0] w fun e w' => e = .returned (.int .i64 0) ∧ w' = w := by
 go_enter Tryz.func151, Tryz.ntmps151
 go_wp2
 go_loop [3, 8] (fun n i => i = .int .i64 0 ∧ n = .int .i64 0) (fun _ _ => 0)
 case atStart => exact ⟨rfl, rfl⟩
 case round =>
  obtain ⟨rfl, rfl⟩ := hrel
  go_wp2
  go_ret
  exact ⟨rfl, rfl⟩
set_option maxHeartbeats 1000000 in
theorem num_short (R B size : Nat) (l : List UInt8) (v : Value) (lk : Int) (x0 x1 x2 x5 x6 x7 : Value) (w : World) (h : l.length < size) (hv : Rest w B v l) (hR : w.heap[R]? = some (.cells #[x0, x1, x2, .int .i64 lk, v, x5, x6, x7] 213)) :
  Calls Tryz.prog 212 #[.pointer (some ⟨R, 0, none⟩), .int .i64 size] w fun e w' => e = .returned (.tuple #[.int .i64 0, wrong lk]) ∧ ∃ k, w' = w.drewN k := by
 obtain ⟨off, cap, rfl, hcap, hl⟩ := hv
 have C := hide (take_short R l.length cap size _ lk x0 x1 x2 x5 x6 x7 w h hR)
 clear hR hl
 go_enter Tryz.func212, Tryz.ntmps212
 go_wp2_with fail
 refine (unhide C).mono ?_
 rintro e w1 ⟨rfl, k, rfl⟩
 go_wp2_with fail
 refine (highest0 _).mono ?_
 rintro e w2 ⟨rfl, rfl⟩
 go_wp2
 go_ret2
 exact ⟨rfl, k, rfl⟩
set_option maxHeartbeats 1000000 in
theorem num_ok (R B size : Nat) (l : List UInt8) (v : Value) (x0 x1 x2 x3 x5 x6 x7 : Value) (w : World) (hs : size ≤ 2) (h : size ≤ l.length) (hB : B < w.heap.size) (hne : B ≠ R) (hv : Rest w B v l) (hR : w.heap[R]? = some (.cells #[x0, x1, x2, x3, v, x5, x6, x7] 213)) :
  Calls Tryz.prog 212 #[.pointer (some ⟨R, 0, none⟩), .int .i64 size] w fun e w' => e = .returned (.tuple #[.int .i64 (numOf (l.take size) : Nat), .nilIface]) ∧ TookL w w' R B (l.drop size) x0 x1 x2 x3 x5 x6 x7 := by
 obtain ⟨off, cap, rfl, hcap, hl⟩ := hv
 have C := hide (take_ok R B off l.length cap size x0 x1 x2 x3 x5 x6 x7 w h hcap hR)
 have HL := hide hl
 have hlen : (l.take size).length = size := by rw [List.length_take]; omega
 have C2 := hide fun v => highest B off size (l.take size) v (by omega)
 rw [hlen] at C2
 generalize numOf (l.take size) = M at *
 clear hR hl hlen
 go_enter Tryz.func212, Tryz.ntmps212
 go_wp2_with fail
 refine (unhide C).mono ?_
 rintro e w1 ⟨rfl, ht⟩
 obtain ⟨ht1, ht2⟩ := took_rest ht (unhide HL) hB hne
 clear ht C
 go_wp2_with fail
 refine (unhide C2 _ ht2).mono ?_
 rintro e w2 ⟨rfl, hw2⟩
 go_wp2
 go_ret2
 exact ⟨rfl, hw2 ▸ ht1⟩
end Go.Proofs.YtahpjlbaagkdoaaGreatDoor
namespace Go.Proofs.YtahpjlbaagkdoaaGreatDoor
open Go.RowKit Go.Extern.Stop Go.Stop Go.Extern
theorem as_nil (t : Value) (w : World) : Calls Tryz.prog 156 #[.nilIface, t] w fun e w' => e = .returned (.bool false) ∧ w' = w := by
 go_enter Tryz.func156, Tryz.ntmps156
 go_wp2
 go_ret
 exact ⟨rfl, rfl⟩
theorem valueP (t : Addr) (w : World) : (ReflectliteValue.unpack (.iface 220 (.pointer (some t)))).run Tryz.prog w
  = .ok (.agg #[.pointer (some ⟨6, 220, none⟩), .pointer (some ⟨w.heap.size, 0, none⟩), .int .u64 150]) (w.alloc (.cells #[.pointer (some t)] 220)) := by kernel_rfl
theorem typeP (a : Addr) (w : World) : (ReflectliteValue.methodAny (ReflectliteValue.valueError "reflectlite.Value.Type" 0) (fun t _ _ _ => ReflectliteType.toType t) #[.agg #[.pointer (some ⟨6, 220, none⟩), .pointer (some a), .int .u64 150]]).run Tryz.prog w
  = .ok (.iface 266 (.agg #[.pointer (some ⟨6, 220, none⟩)])) w := by kernel_rfl
theorem methKind (h : Value) (w : World) : (Go.method 415 266 (.agg #[h]) "Kind").run Tryz.prog w = .ok (229, h) w := by kernel_rfl
theorem methElem (h : Value) (w : World) : (Go.method 415 266 (.agg #[h]) "Elem").run Tryz.prog w = .ok (255, .agg #[h]) w := by kernel_rfl
theorem methImplements (h : Value) (w : World) : (Go.method 415 266 (.agg #[h]) "Implements").run Tryz.prog w = .ok (256, .agg #[h]) w := by kernel_rfl
theorem methAssignable (h : Value) (w : World) : (Go.method 415 266 (.agg #[h]) "AssignableTo").run Tryz.prog w = .ok (253, .agg #[h]) w := by kernel_rfl
theorem kindP (w : World) : ((ReflectliteType.abiMethod fun t => (fun a : Nat => Value.int IntKind.u8 (a : Int)) <$> Rtype.kind t) #[.pointer (some ⟨6, 220, none⟩)]).run Tryz.prog w = .ok (.int .u8 22) w := by kernel_rfl
theorem kindM (w : World) : ((ReflectliteType.abiMethod fun t => (fun a : Nat => Value.int IntKind.u8 (a : Int)) <$> Rtype.kind t) #[.pointer (some ⟨6, 218, none⟩)]).run Tryz.prog w = .ok (.int .u8 25) w := by kernel_rfl
theorem partsP (a : Addr) (w : World) : (ReflectliteValue.parts (.agg #[.pointer (some ⟨6, 220, none⟩), .pointer (some a), .int .u64 150])).run Tryz.prog w = .ok (some (220, a, 150)) w := by kernel_rfl
theorem elemT (w : World) : (ReflectliteType.method ReflectliteType.elem #[.agg #[.pointer (some ⟨6, 220, none⟩)]]).run Tryz.prog w = .ok (.iface 266 (.agg #[.pointer (some ⟨6, 218, none⟩)])) w := by kernel_rfl
theorem implM (w : World) : (ReflectliteType.relation "Implements" ReflectliteType.implements_ #[.agg #[.pointer (some ⟨6, 218, none⟩)], .iface 266 (.agg #[.pointer (some ⟨6, 195, none⟩)])]).run Tryz.prog w = .ok (.bool true) w := by kernel_rfl
theorem typeOfM (v : Value) (w : World) : (ReflectliteType.typeOf #[.iface 218 v]).run Tryz.prog w = .ok (.iface 266 (.agg #[.pointer (some ⟨6, 218, none⟩)])) w := by kernel_rfl
theorem assignM (w : World) : (ReflectliteType.relation "AssignableTo" ReflectliteType.assignableTo #[.agg #[.pointer (some ⟨6, 218, none⟩)], .iface 266 (.agg #[.pointer (some ⟨6, 218, none⟩)])]).run Tryz.prog w = .ok (.bool true) w := by kernel_rfl
theorem valueM (c : Int) (w : World) : (ReflectliteValue.unpack (.iface 218 (.agg #[.int .i64 c]))).run Tryz.prog w
  = .ok (.agg #[.pointer (some ⟨6, 218, none⟩), .pointer (some ⟨w.heap.size, 0, none⟩), .int .u64 153]) (w.alloc (.cells #[.int .i64 c] 218)) := by kernel_rfl
theorem elemOfP (w : World) : (Rtype.elem? 220).run Tryz.prog w = .ok (some 218) w := by kernel_rfl
theorem mkM (p : Addr) (w : World) : (ReflectliteValue.mk 218 p ReflectliteValue.flagAddr).run Tryz.prog w = .ok (.agg #[.pointer (some ⟨6, 218, none⟩), .pointer (some p), .int .u64 409]) w := by kernel_rfl
theorem partsMa (a : Addr) (w : World) : (ReflectliteValue.parts (.agg #[.pointer (some ⟨6, 218, none⟩), .pointer (some a), .int .u64 409])).run Tryz.prog w = .ok (some (218, a, 409)) w := by kernel_rfl
theorem partsM (a : Addr) (w : World) : (ReflectliteValue.parts (.agg #[.pointer (some ⟨6, 218, none⟩), .pointer (some a), .int .u64 153])).run Tryz.prog w = .ok (some (218, a, 153)) w := by kernel_rfl
theorem directM (w : World) : (Rtype.directlyAssignable 218 218).run Tryz.prog w = .ok true w := by kernel_rfl
end Go.Proofs.YtahpjlbaagkdoaaGreatDoor
