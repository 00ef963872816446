/- A number of up to four bytes, the highest first: the program's highestFirst, the model's l05Get; what lay in memory stands. What is read of bytes as a part: the program's walk; memory that was there stands. -/
import Derived.Test.YtfkeokfmancgiaaLies
import Derived.Test.YtfkeokfmancgiaaFgB
import Derived.Test.YtfkeokfmancgiaaCln
namespace Go.Proofs.Ytfkeokfmancgiaa
open Go.RowKit
theorem numOf_go (l : List UInt8) (n : Nat) : l.foldl (fun n c => 256 * n + c.toNat) n < (n + 1) * 256 ^ l.length := by
  induction l generalizing n with
  | nil => simp
  | cons c l ih =>
    have h := ih (256 * n + c.toNat)
    have hc := c.toNat_lt
    rw [List.foldl_cons, List.length_cons, Nat.pow_succ, Nat.mul_comm (256 ^ l.length) 256, ← Nat.mul_assoc]
    exact Nat.lt_of_lt_of_le h (Nat.mul_le_mul_right _ (by omega))
theorem numOf_lt (l : List UInt8) : numOf l < 256 ^ l.length := by
  have := numOf_go l 0
  rw [Nat.zero_add, Nat.one_mul] at this
  exact this
theorem numOf_lt3 (l : List UInt8) (h : l.length < 4) : numOf l < 16777216 := by
  have h1 := numOf_lt l
  have h2 : 256 ^ l.length ≤ 256 ^ 3 := Nat.pow_le_pow_right (by decide) (by omega)
  omega
theorem numOf_lt4 (l : List UInt8) (h : l.length ≤ 4) : numOf l < 4294967296 := by
  have h1 := numOf_lt l
  have h2 : 256 ^ l.length ≤ 256 ^ 4 := Nat.pow_le_pow_right (by decide) h
  omega
theorem or8w (a b : Nat) (ha : a < 16777216) (hb : b < 256) : bits .or .i64 ((a : Int) * 256) (b : Int) = ((256 * a + b : Nat) : Int) := by
  have h1 : a * 256 ||| b = a * 2 ^ 8 + b := by
    rw [Nat.mul_comm, show (256 : Nat) = 2 ^ 8 from rfl, ← Nat.two_pow_add_eq_or_of_lt (by omega), Nat.mul_comm]
  show IntKind.i64.wrap ((BitVec.ofInt 64 ((a : Int) * 256) ||| BitVec.ofInt 64 (b : Int)).toNat : Int) = _
  rw [show (a : Int) * 256 = ((a * 256 : Nat) : Int) by omega, BitVec.toNat_or, ofInt_u64 (a * 256) (by omega), ofInt_u64 b (by omega), h1, IntKind.wrap_i64]
  omega
theorem i64_or_nat (a b : Nat) (ha : a < 4294967296) (hb : b < 4294967296) : bits .or .i64 (a : Int) (b : Int) = ((a ||| b : Nat) : Int) := by
  have h3 : a ||| b < 2 ^ 32 := Nat.or_lt_two_pow (by omega) (by omega)
  show IntKind.i64.wrap ((BitVec.ofInt 64 (a : Int) ||| BitVec.ofInt 64 (b : Int)).toNat : Int) = _
  rw [BitVec.toNat_or, ofInt_u64 a (by omega), ofInt_u64 b (by omega), IntKind.wrap_i64]
  omega
theorem numOf_snoc (l : List UInt8) (k : Nat) (hlt : k < l.length) : numOf (l.take (k + 1)) = 256 * numOf (l.take k) + l[k].toNat := by
  unfold numOf
  rw [List.take_succ_eq_append_getElem hlt, List.foldl_append]
  rfl
set_option maxHeartbeats 1000000 in
theorem highest4 (B off cap : Nat) (l : List UInt8) (w : World) (hl4 : l.length ≤ 4) (hl : Lies w B off l) :
    Calls Try.prog 39 #[.slice (some ⟨B, off, none⟩) l.length cap] w fun e w' => e = .returned (.int .i64 (numOf l : Nat)) ∧ w' = w := by
  go_enter Try.func39, Try.ntmps39
  go_wp2
  go_loop [3, 8] (fun n i => ∃ (k : Nat), k ≤ l.length ∧ i = .int .i64 k ∧ n = .int .i64 (numOf (l.take k) : Nat)) (fun _ i => l.length - (intOf i).toNat)
  case atStart => exact ⟨0, Nat.zero_le _, rfl, rfl⟩
  case round =>
    obtain ⟨k, hk, rfl, rfl⟩ := hrel
    by_cases hlt : k < l.length
    · have hc := hl k hlt
      have HS := hide (numOf_snoc l k hlt)
      have hn : numOf (l.take k) < 16777216 := numOf_lt3 _ (by rw [List.length_take]; omega)
      have ho := or8w (numOf (l.take k)) l[k].toNat hn l[k].toNat_lt
      have HW : Hid (wrap64 (l[k].toNat : Int) = (l[k].toNat : Int)) := hide (by have := l[k].toNat_lt; unfold wrap64; omega)
      generalize numOf (l.take k) = n at *
      have d1 : (k : Int) < (l.length : Int) := by omega
      clear hl
      go_wp2
      go_round
      case rel => exact ⟨k + 1, by omega, by go_num, by rw [unhide HW, ho, unhide HS]⟩
      case measure => simp [intOf]; omega
    · have HK := hide (List.take_of_length_le (l := l) (i := k) (by omega))
      have d1 : ¬ ((k : Int) < (l.length : Int)) := by omega
      go_wp2
      go_ret
      exact ⟨by rw [unhide HK]; rfl, rfl⟩
set_option maxHeartbeats 1000000 in
theorem specGetYes (t : ByteArray) (many : Nat) (w : World) (hm : many ≤ 4) (h : t.size = many) :
    Calls Try.prog 51 #[.string t, .int .i64 many] w fun e w' => e = .returned (.tuple #[.int .i64 (numOf t.data.toList : Nat), .bool true]) ∧ w' = w := by
  subst h
  have d0 : ((t.size : Int) == (t.size : Int)) = true := beq_self_eq_true _
  go_enter Try.func51, Try.ntmps51
  go_wp2_with fail
  go_loop [6, 7] (fun n i => ∃ k : Nat, k ≤ t.size ∧ i = .int .i64 k ∧ n = .int .i64 (numOf (t.data.toList.take k) : Nat)) (fun _ i => t.size - (intOf i).toNat)
  case atStart => exact ⟨0, Nat.zero_le _, rfl, rfl⟩
  case round =>
    obtain ⟨k, hk, rfl, rfl⟩ := hrel
    by_cases hlt : k < t.size
    · have hl2 : k < t.data.toList.length := by rw [len_dat]; exact hlt
      have HS : Hid (numOf (t.data.toList.take (k + 1)) = 256 * numOf (t.data.toList.take k) + (t[k]'hlt).toNat) := hide (numOf_snoc t.data.toList k hl2)
      have hn : numOf (t.data.toList.take k) < 16777216 := numOf_lt3 _ (by rw [List.length_take]; omega)
      have hc := (t[k]'hlt).toNat_lt
      generalize numOf (t.data.toList.take k) = n at *
      have d1 : decide ((k : Int) < (t.size : Int)) = true := decide_eq_true (by omega)
      clear hl2
      go_wp2
      go_round
      case rel => exact ⟨k + 1, by omega, by go_num, by rw [unhide HS]; congr 1⟩
      case measure => simp [intOf]; omega
    · have e : k = t.size := by omega
      subst e
      have HK := hide (List.take_of_length_le (l := t.data.toList) (i := t.size) (by rw [len_dat]; omega))
      have d1 : decide ((t.size : Int) < (t.size : Int)) = false := decide_eq_false (by omega)
      go_wp2
      go_ret2
      exact ⟨by rw [unhide HK]; rfl, rfl⟩
end Go.Proofs.Ytfkeokfmancgiaa
namespace Go.Proofs.Ytfkeokfmancgiaa
open Go.RowKit
set_option maxHeartbeats 400000 in
theorem cloneStr9 (t : ByteArray) (w : World) (ht : t.size ≤ 281474976710656) : Calls Try.prog 35 #[.string t] w fun e w' => e = .returned (.string t) ∧ Below w.heap.size w w' := by
  have C := hide (Any.stringslite_Clone Try.laysCln t w ht)
  go_enter Try.func35, Try.ntmps35
  go_wp2_with fail
  refine (unhide C).mono ?_
  rintro e w1 ⟨rfl, hb⟩
  go_wp2
  go_ret
  exact ⟨rfl, hb⟩
def fgZero : Fg := ⟨0, false, false, ⟨#[]⟩⟩
/-- What the bytes say. -/
def fgSay (c : UInt8) (l u : List UInt8) : Fg := ⟨(numOf l : Nat), decide (128 ≤ c.toNat), decide (64 ≤ c.toNat % 128), txt u⟩
/-- What is read of bytes. -/
def fgRead (t : ByteArray) : Fg := match t.data.toList with
  | c :: c1 :: c2 :: c3 :: u => if u.length ≤ 200 ∧ c.toNat % 64 = 0 then fgSay c [c1, c2, c3] u else fgZero
  | _ => fgZero
theorem and128 : ∀ n : Nat, n < 256 → (bits .and .u8 (n : Int) 128 != 0) = decide (128 ≤ n) := by decide +kernel
theorem and64 : ∀ n : Nat, n < 256 → (bits .and .u8 (n : Int) 64 != 0) = decide (64 ≤ n % 128) := by decide +kernel
theorem say_byte (c : UInt8) (l u : List UInt8) : fgByte (fgSay c l u) = c ↔ c.toNat % 64 = 0 := by
  have hc := c.toNat_lt
  have h := fgByte_nat (fgSay c l u)
  unfold fgSay at h
  simp only [decide_eq_true_eq] at h
  constructor
  · intro e
    have e2 : (fgByte (fgSay c l u)).toNat = c.toNat := by rw [e]
    unfold fgSay at e2
    rw [h] at e2
    split at e2 <;> split at e2 <;> omega
  · intro e
    apply UInt8.toNat_inj.1
    unfold fgSay
    rw [h]
    split <;> split <;> omega
theorem info4g : (Try.prog.info? 33).map (·.size) = some 4 := by kernel_rfl
theorem load4g {W : World} {E : Nat} {x0 x1 x2 x3 : Value} (h : W.heap[E]? = some (.cells #[x0, x1, x2, x3] 33)) : (loadVar 33 ⟨E, 0, none⟩).run Try.prog W = .ok (.agg #[x0, x1, x2, x3]) W :=
  run_loadVar_row (P := Try.prog) _ _ 33 33 #[x0, x1, x2, x3] (0, 0) _ h Try.underlying33 rfl info4g
theorem set4_fg {W : World} {E : Nat} {z0 z1 z2 z3 : Value} {T : TypeId} (h : W.heap[E]? = some (.cells #[z0, z1, z2, z3] T)) (x0 x1 x2 x3 : Value) :
    ((((W.setCell ⟨E, 0, none⟩ x0).setCell ⟨E, 1, none⟩ x1).setCell ⟨E, 2, none⟩ x2).setCell ⟨E, 3, none⟩ x3).heap[E]? = some (.cells #[x0, x1, x2, x3] T) :=
  heap_setCell_same _ _ 3 _ _ x3 (heap_setCell_same _ _ 2 _ _ x2 (heap_setCell_same _ _ 1 _ _ x1 (heap_setCell_same _ _ 0 _ _ x0 h)))
theorem set4_fgb {n : Nat} {w W : World} {E : Nat} (h : Below n w W) (hE : n ≤ E) (x0 x1 x2 x3 : Value) :
    Below n w ((((W.setCell ⟨E, 0, none⟩ x0).setCell ⟨E, 1, none⟩ x1).setCell ⟨E, 2, none⟩ x2).setCell ⟨E, 3, none⟩ x3) :=
  (((h.setCell (p := ⟨E, 0, none⟩) hE _).setCell (p := ⟨E, 1, none⟩) hE _).setCell (p := ⟨E, 2, none⟩) hE _).setCell (p := ⟨E, 3, none⟩) hE _
theorem fgRead_no {t : ByteArray} (h : t.size < 4 ∨ 204 < t.size) : fgRead t = fgZero := by
  have hl := len_dat t
  unfold fgRead
  split
  · rename_i c c1 c2 c3 u hq
    rw [hq] at hl
    simp only [List.length_cons] at hl
    rw [if_neg (by omega)]
  · rfl
theorem four_of {t : ByteArray} (h : 4 ≤ t.size) : ∃ c c1 c2 c3 u, t.data.toList = c :: c1 :: c2 :: c3 :: u := by
  have hl := len_dat t
  match hq : t.data.toList with
  | [] => rw [hq] at hl; simp at hl; omega
  | [_] => rw [hq] at hl; simp at hl; omega
  | [_, _] => rw [hq] at hl; simp at hl; omega
  | [_, _, _] => rw [hq] at hl; simp at hl; omega
  | c :: c1 :: c2 :: c3 :: u => exact ⟨c, c1, c2, c3, u, rfl⟩
theorem fgRead_at {t : ByteArray} {c c1 c2 c3 : UInt8} {u : List UInt8} (hd : t.data.toList = c :: c1 :: c2 :: c3 :: u) (h : t.size ≤ 204) : fgRead t = if c.toNat % 64 = 0 then fgSay c [c1, c2, c3] u else fgZero := by
  have hl := len_dat t
  unfold fgRead
  rw [hd] at hl ⊢
  simp only [List.length_cons] at hl
  dsimp only
  by_cases h0 : c.toNat % 64 = 0
  · rw [if_pos ⟨by omega, h0⟩, if_pos h0]
  · rw [if_neg (fun h => h0 h.2), if_neg h0]
theorem bytes_fn (t : ByteArray) (n : Nat) (hn : t.data.toList.length = n) : ∃ (cap : World → Nat) (nx : World → World), (∀ W, (convert 9 22 (.string t)).run Try.prog W = .ok (.slice (some ⟨W.heap.size, 0, none⟩) n (cap W)) (nx W)) ∧ ∀ W, Lies (nx W) W.heap.size 0 t.data.toList ∧ Below W.heap.size W (nx W) ∧ W.heap.size < (nx W).heap.size := by
  have h := fun W => bytes_of t W
  obtain ⟨cap, h⟩ := Classical.axiomOfChoice h
  obtain ⟨nx, h⟩ := Classical.axiomOfChoice h
  exact ⟨cap, nx, fun W => by rw [← hn]; exact (h W).1, fun W => (h W).2.2⟩
theorem ext14 {t : ByteArray} {c c1 c2 c3 : UInt8} {u : List UInt8} (hd : t.data.toList = c :: c1 :: c2 :: c3 :: u) : t.extract 1 4 = txt [c1, c2, c3] := by
  apply ByteArray.ext
  apply Array.toList_inj.1
  rw [ByteArray.data_extract, Array.toList_extract, hd]
  simp [txt]
theorem ext4 {t : ByteArray} {c c1 c2 c3 : UInt8} {u : List UInt8} (hd : t.data.toList = c :: c1 :: c2 :: c3 :: u) : t.extract 4 t.size = txt u := by
  have hl := len_dat t
  rw [hd] at hl
  simp only [List.length_cons] at hl
  apply ByteArray.ext
  apply Array.toList_inj.1
  rw [ByteArray.data_extract, Array.toList_extract, hd]
  simp [txt]
  exact List.take_of_length_le (by omega)
theorem ix0 {t : ByteArray} {c : UInt8} {u : List UInt8} (hd : t.data.toList = c :: u) (h0 : 0 < t.size) : (t[0]'h0).toNat = c.toNat := by
  show (t.data[0]'h0).toNat = _
  rw [← Array.getElem_toList]
  simp [hd]
set_option maxRecDepth 100000 in
set_option maxHeartbeats 1000000 in
theorem iFgRead_no (t : ByteArray) (w : World) (h : t.size < 4 ∨ 204 < t.size) (h2 : t.size ≤ maxLen) : Calls Try.prog 10 #[.string t] w fun e w' => e = .returned (fgV fgZero) ∧ Below w.heap.size w w' := by
  unfold maxLen at h2
  have C := hide fun v => iWithin9 (t.size : Int) 4 204 v
  rw [wo (by omega)] at C
  go_enter Try.func10, Try.ntmps10
  go_wp2_with fail
  refine (unhide C _).mono ?_
  rintro e w2 ⟨rfl, rfl⟩
  go_wp2
  refine bodyPost_ret (v := .agg #[.int .i64 0, .bool false, .bool false, .string ⟨#[]⟩]) (by simp [results, Try.results10, go_sem]) rfl ⟨rfl, ?_⟩
  exact (Below.refl _ _).alloc (Nat.le_refl _) _
def RRg (w : World) (T : TypeId) (x0 x1 x2 x3 : Value) (v : Value) (q : World) : Prop :=
  ∃ M, v = .pointer (some ⟨M, 0, none⟩) ∧ q.heap[M]? = some (.cells #[x0, x1, x2, x3] T) ∧ w.heap.size < M ∧ q.heap[w.heap.size]? = some (.cells #[.int .i64 0, .bool false, .bool false, .string ⟨#[]⟩] T) ∧ Below w.heap.size w q
theorem frag_drew {w w2 : World} {o : Obj} (h : w2.heap[w.heap.size]? = some o ∧ Below w.heap.size w w2 ∧ w.heap.size < w2.heap.size) : w2.drew.heap[w.heap.size]? = some o ∧ Below w.heap.size w w2.drew ∧ w.heap.size < w2.drew.heap.size := ⟨h.1, h.2.1.drew, h.2.2⟩
theorem rrg_end {w q : World} {M : Nat} {z0 z1 z2 z3 x0 x1 x2 x3 : Value} {T : TypeId} (hx : q.heap[w.heap.size]? = some (.cells #[.int .i64 0, .bool false, .bool false, .string ⟨#[]⟩] T) ∧ Below w.heap.size w q ∧ w.heap.size < q.heap.size) (hm : q.heap[M]? = some (.cells #[z0, z1, z2, z3] T) ∧ w.heap.size < M) :
    RRg w T x0 x1 x2 x3 (.pointer (some ⟨M, 0, none⟩)) ((((q.setCell ⟨M, 0, none⟩ x0).setCell ⟨M, 1, none⟩ x1).setCell ⟨M, 2, none⟩ x2).setCell ⟨M, 3, none⟩ x3) := by
  have hne : w.heap.size ≠ M := by have := hm.2; omega
  refine ⟨M, rfl, set4_fg hm.1 _ _ _ _, hm.2, ?_, set4_fgb hx.2.1 (by have := hm.2; omega) _ _ _ _⟩
  rw [heap_setCell_other _ _ _ _ hne, heap_setCell_other _ _ _ _ hne, heap_setCell_other _ _ _ _ hne, heap_setCell_other _ _ _ _ hne]
  exact hx.1
theorem rd_end {w w3 w4 : World} {M : Nat} {o z : Obj} (h : w3.heap[M]? = some o ∧ w3.heap[w.heap.size]? = some z ∧ Below w.heap.size w w3 ∧ w.heap.size < M ∧ M < w3.heap.size) (hb : Below w3.heap.size w3 w4) :
    Hid (w4.heap[M]? = some o ∧ w4.heap[w.heap.size]? = some z ∧ Below w.heap.size w w4 ∧ ¬ (w.heap.size = M) ∧ ¬ (M = w.heap.size)) :=
  hide ⟨(hb.block _ h.2.2.2.2).trans h.1, (hb.block _ (by have := h.2.2.2; omega)).trans h.2.1, h.2.2.1.trans (hb.mono h.2.2.1.size), by have := h.2.2.2; omega, by have := h.2.2.2; omega⟩
set_option maxRecDepth 100000 in
set_option maxHeartbeats 4000000 in
theorem iFgRead_at (t : ByteArray) (c c1 c2 c3 : UInt8) (u : List UInt8) (hd : t.data.toList = c :: c1 :: c2 :: c3 :: u) (w : World) (h : t.size ≤ 204) : Calls Try.prog 10 #[.string t] w fun e w' => e = .returned (fgV (if c.toNat % 64 = 0 then fgSay c [c1, c2, c3] u else fgZero)) ∧ Below w.heap.size w w' := by
  have hl := len_dat t
  rw [hd] at hl
  simp only [List.length_cons] at hl
  have h0 : 0 < t.size := by omega
  have g0 := ix0 hd h0
  have gx := ext4 hd
  have gy := ext14 hd
  have hc := c.toNat_lt
  have CW := hide fun v => iWithin9 (t.size : Int) 4 204 v
  rw [wi (by omega)] at CW
  obtain ⟨cap, nx, hcv, hnx⟩ := bytes_fn (txt [c1, c2, c3]) 3 (by rfl)
  have HN := hide hnx
  rw [data_txt] at HN
  have CL := hide fun v => cloneStr9 (txt u) v (by rw [txt_size]; omega)
  have CF := hide fun v => iFlags (fgSay c [c1, c2, c3] u) v
  have hby := say_byte c [c1, c2, c3] u
  have b1 := and128 c.toNat hc
  have b2 := and64 c.toNat hc
  unfold fgSay at CF hby ⊢
  dsimp only [fgV] at CF
  have d1 : ¬ ((t.size : Int) < 0) := by omega
  have d4 : (4 : Int) ≤ (t.size : Int) := by omega
  generalize hu : txt u = U at *
  generalize hx : decide (128 ≤ c.toNat) = bg at *
  generalize hy : decide (64 ≤ c.toNat % 128) = fn at *
  have CH : Hid (∀ (B cp : Nat) (v : World), Lies v B 0 [c1, c2, c3] → Calls Try.prog 39 #[.slice (some ⟨B, 0, none⟩) 3 cp] v fun e w' => e = .returned (.int .i64 (numOf [c1, c2, c3] : Nat)) ∧ w' = v) := hide fun B cp v h => highest4 B 0 cp [c1, c2, c3] v (by simp) h
  generalize numOf [c1, c2, c3] = n at *
  generalize hk : txt [c1, c2, c3] = K3 at *
  obtain ⟨R, hR⟩ : ∃ R : Fg, (if c.toNat % 64 = 0 then (⟨(n : Int), bg, fn, U⟩ : Fg) else fgZero) = R := ⟨_, rfl⟩
  rw [hR]
  have HR := hide hR
  clear hnx hd hl hR
  go_enter Try.func10, Try.ntmps10
  go_wp2_with fail
  refine (unhide CW _).mono ?_
  rintro e w2 ⟨rfl, hw2⟩
  have hO : Hid (w2.heap[w.heap.size]? = some (.cells #[.int .i64 0, .bool false, .bool false, .string ⟨#[]⟩] 33) ∧ Below w.heap.size w w2 ∧ w.heap.size < w2.heap.size) := by
    rw [hw2]
    exact hide ⟨heap_alloc_new w _, (Below.refl _ _).alloc (Nat.le_refl _) _, by simp⟩
  clear hw2 CW
  go_upto_region 3 with fail
  go_cut [3] (fun v q => RRg w 33 (.int .i64 n) (.bool bg) (.bool fn) (.string U) v q)
  case first =>
    refine wp_region_held_drew (S := fun _ => True) (by kernel_rfl) trivial (fun hHeld => ?_)
    have HY := hide (frag_drew (unhide hO))
    generalize w2.drew = y at HY hHeld ⊢
    refine wpAnyH_take (i := 0) (v := ?vp0) rfl (by kernel_rfl) (by kernel_rfl) (by kernel_rfl) (fun _ _ _ h => h) (Or.inl ⟨by rfl, ?hyp0⟩) (by assumption) ?_
    case hyp0 =>
      intro w hSw
      try dsimp only at hSw
      go_simp
      try with_reducible rfl
    try simp only [Act.put, List.setIfInBounds_toArray, List.set_cons_zero, List.set_cons_succ, List.getElem_toArray, List.getElem_cons_zero]
    refine wpAnyH_take (i := 1) (v := ?vp1) rfl (by kernel_rfl) (by kernel_rfl) (by kernel_rfl) (fun _ _ _ h => h) (Or.inl ⟨by rfl, ?hyp1⟩) (by assumption) ?_
    case hyp1 =>
      intro w hSw
      try dsimp only at hSw
      go_simp
      try with_reducible rfl
    try simp only [Act.put, List.setIfInBounds_toArray, List.set_cons_zero, List.set_cons_succ, List.getElem_toArray, List.getElem_cons_zero, List.getElem_cons_succ]
    refine wpAnyH_take (i := 4) (v := ?vp4) rfl (by kernel_rfl) (by kernel_rfl) (by kernel_rfl) (fun _ _ _ h => h) (Or.inl ⟨by rfl, ?hyp4⟩) (by assumption) ?_
    case hyp4 =>
      intro w hSw
      try dsimp only at hSw
      go_simp
      try with_reducible rfl
    try simp only [Act.put, List.setIfInBounds_toArray, List.set_cons_zero, List.set_cons_succ, List.getElem_toArray, List.getElem_cons_zero, List.getElem_cons_succ]
    refine wpAnyH_take (i := 5) (v := ?vp5) rfl (by kernel_rfl) (by kernel_rfl) (by kernel_rfl) (fun _ _ _ h => h) (Or.inl ⟨by rfl, ?hyp5⟩) (by assumption) ?_
    case hyp5 =>
      intro w hSw
      try dsimp only at hSw
      go_simp
      try with_reducible rfl
    try simp only [Act.put, List.setIfInBounds_toArray, List.set_cons_zero, List.set_cons_succ, List.getElem_toArray, List.getElem_cons_zero, List.getElem_cons_succ]
    refine wpAnyH_take (i := 6) (v := ?vp6) rfl (by kernel_rfl) (by kernel_rfl) (by kernel_rfl) (fun _ _ _ h => h) (Or.inl ⟨by rfl, ?hyp6⟩) (by assumption) ?_
    case hyp6 =>
      intro w hSw
      try dsimp only at hSw
      go_simp
      try with_reducible rfl
    try simp only [Act.put, List.setIfInBounds_toArray, List.set_cons_zero, List.set_cons_succ, List.getElem_toArray, List.getElem_cons_zero, List.getElem_cons_succ]
    refine wpAnyH_take (i := 7) (v := ?vp7) rfl (by kernel_rfl) (by kernel_rfl) (by kernel_rfl) (fun _ _ _ h => h) (Or.inl ⟨by rfl, ?hyp7⟩) (by assumption) ?_
    case hyp7 =>
      intro w hSw
      try dsimp only at hSw
      go_simp
      try with_reducible rfl
    try simp only [Act.put, List.setIfInBounds_toArray, List.set_cons_zero, List.set_cons_succ, List.getElem_toArray, List.getElem_cons_zero, List.getElem_cons_succ]
    refine wpAnyH_take (i := 8) (v := ?vp8) rfl (by kernel_rfl) (by kernel_rfl) (by kernel_rfl) (fun _ _ _ h => h) (Or.inl ⟨by rfl, ?hyp8⟩) (by assumption) ?_
    case hyp8 =>
      intro w hSw
      try dsimp only at hSw
      go_simp
      try with_reducible rfl
    try simp only [Act.put, List.setIfInBounds_toArray, List.set_cons_zero, List.set_cons_succ, List.getElem_toArray, List.getElem_cons_zero, List.getElem_cons_succ]
    refine wpAnyH_take (i := 9) (v := ?vp9) rfl (by kernel_rfl) (by kernel_rfl) (by kernel_rfl) (fun _ _ _ h => h) (Or.inl ⟨by rfl, ?hyp9⟩) (by assumption) ?_
    case hyp9 =>
      intro w hSw
      try dsimp only at hSw
      go_simp
      try with_reducible rfl
    try simp only [Act.put, List.setIfInBounds_toArray, List.set_cons_zero, List.set_cons_succ, List.getElem_toArray, List.getElem_cons_zero, List.getElem_cons_succ]
    refine wpAnyH_take (i := 10) (v := ?vp10) rfl (by kernel_rfl) (by kernel_rfl) (by kernel_rfl) (fun _ _ _ h => h) (Or.inl ⟨by rfl, ?hyp10⟩) (by assumption) ?_
    case hyp10 =>
      intro w hSw
      try dsimp only at hSw
      go_simp
      try with_reducible rfl
    try simp only [Act.put, List.setIfInBounds_toArray, List.set_cons_zero, List.set_cons_succ, List.getElem_toArray, List.getElem_cons_zero, List.getElem_cons_succ]
    refine wpAnyH_take (i := 11) (v := ?vp11) rfl (by kernel_rfl) (by kernel_rfl) (by kernel_rfl) (fun _ _ _ h => h) (Or.inl ⟨by rfl, ?hyp11⟩) (by assumption) ?_
    case hyp11 =>
      intro w hSw
      try dsimp only at hSw
      go_simp
      try with_reducible rfl
    try simp only [Act.put, List.setIfInBounds_toArray, List.set_cons_zero, List.set_cons_succ, List.getElem_toArray, List.getElem_cons_zero, List.getElem_cons_succ]
    refine wpAnyH_take (i := 12) (v := ?vp12) rfl (by kernel_rfl) (by kernel_rfl) (by kernel_rfl) (fun _ _ _ h => h) (Or.inl ⟨by rfl, ?hyp12⟩) (by assumption) ?_
    case hyp12 =>
      intro w hSw
      try dsimp only at hSw
      go_simp
      try with_reducible rfl
    try simp only [Act.put, List.setIfInBounds_toArray, List.set_cons_zero, List.set_cons_succ, List.getElem_toArray, List.getElem_cons_zero, List.getElem_cons_succ]
    refine wpAnyH_take (i := 13) (v := ?vp13) rfl (by kernel_rfl) (by kernel_rfl) (by kernel_rfl) (fun _ _ _ h => h) (Or.inl ⟨by rfl, ?hyp13⟩) (by assumption) ?_
    case hyp13 =>
      intro w hSw
      try dsimp only at hSw
      go_simp
      try with_reducible rfl
    try simp only [Act.put, List.setIfInBounds_toArray, List.set_cons_zero, List.set_cons_succ, List.getElem_toArray, List.getElem_cons_zero, List.getElem_cons_succ]
    clear gx gy g0 b1 b2
    refine wpAnyH_ready (rs := [2, 16]) (by kernel_rfl) (by simp) ?_
    refine AllReadyH.cons rfl (fun K hK => ?_) (AllReadyH.cons rfl (fun K hK => ?_) (AllReadyH.nil))
    · go_simp
      have hb1 := (unhide HN y).2.1
      have HX1 := frag_put3 (unhide HY) hb1
      have HL1 := hide (And.intro (unhide HN y).1 (unhide HN y).2.2)
      refine hK.out _ _ trivial (fun _ => ?_)
      clear hK K
      try simp only [Act.put, List.setIfInBounds_toArray, List.set_cons_zero, List.set_cons_succ, List.getElem_toArray, List.getElem_cons_zero, List.getElem_cons_succ]
      clear hb1
      generalize nx y = y1 at *
      generalize y.heap.size = B1 at HL1 ⊢
      generalize cap y = cp1 at *
      refine wpAnyH_ready (rs := [3, 16]) (by kernel_rfl) (by simp) ?_
      refine AllReadyH.cons rfl (fun K hK => ?_) (AllReadyH.cons rfl (fun K hK => ?_) (AllReadyH.nil))
      · go_simp
        refine (unhide CH _ _ _ (unhide HL1).1).mono ?_
        rintro r y2 ⟨rfl, hy2⟩
        replace hy2 := hy2.symm
        subst hy2
        go_wp2_with fail
        refine hK.out _ _ trivial (fun _ => ?_)
        clear hK K
        try simp only [Act.put, List.setIfInBounds_toArray, List.set_cons_zero, List.set_cons_succ, List.getElem_toArray, List.getElem_cons_zero, List.getElem_cons_succ]
        refine wpAnyH_ready (rs := [14, 16]) (by kernel_rfl) (by simp) ?_
        refine AllReadyH.cons rfl (fun K hK => ?_) (AllReadyH.cons rfl (fun K hK => ?_) (AllReadyH.nil))
        · go_simp
          refine (unhide CL _).mono ?_
          rintro r y3 ⟨rfl, hb3⟩
          have HX3 := frag_put3 (unhide HX1) hb3
          have HL3 := hide (And.intro ((unhide HL1).1.below hb3 (unhide HL1).2) (Nat.lt_of_lt_of_le (unhide HL1).2 hb3.size))
          clear hb3
          go_wp2_with fail
          refine hK.out _ _ trivial (fun _ => ?_)
          clear hK K
          try simp only [Act.put, List.setIfInBounds_toArray, List.set_cons_zero, List.set_cons_succ, List.getElem_toArray, List.getElem_cons_zero, List.getElem_cons_succ]
          refine wpAnyH_take (i := 15) (v := ?ve315) rfl (by kernel_rfl) (by kernel_rfl) (by kernel_rfl) (fun _ _ _ h => h) (Or.inl ⟨by rfl, ?hye315⟩) (by assumption) ?_
          case hye315 =>
            intro w hSw
            try dsimp only at hSw
            go_simp
            try with_reducible rfl
          try simp only [Act.put, List.setIfInBounds_toArray, List.set_cons_zero, List.set_cons_succ, List.getElem_toArray, List.getElem_cons_zero, List.getElem_cons_succ]
          refine wpAnyH_ready (rs := [16]) (by kernel_rfl) (by simp) ?_
          refine AllReadyH.cons rfl (fun K hK => ?_) (AllReadyH.nil)
          go_simp
          have hb4 : Below y3.heap.size y3 (y3.alloc (.cells #[.int .i64 0, .bool false, .bool false, .string ⟨#[]⟩] 33)) := (Below.refl _ _).alloc (Nat.le_refl _) _
          have HX4 := frag_put3 (unhide HX3) hb4
          have HL4 := hide (And.intro ((unhide HL3).1.below hb4 (unhide HL3).2) (Nat.lt_of_lt_of_le (unhide HL3).2 hb4.size))
          have HM4 := hide (And.intro (heap_alloc_new y3 (.cells #[.int .i64 0, .bool false, .bool false, .string ⟨#[]⟩] 33)) (unhide HX3).2.2)
          refine hK.out _ _ trivial (fun _ => ?_)
          clear hK K
          try simp only [Act.put, List.setIfInBounds_toArray, List.set_cons_zero, List.set_cons_succ, List.getElem_toArray, List.getElem_cons_zero, List.getElem_cons_succ]
          obtain ⟨M4, hM4⟩ : ∃ M, y3.heap.size = M := ⟨_, rfl⟩
          rw [hM4] at HM4 ⊢
          clear hb4 hM4
          generalize (y3.alloc (.cells #[.int .i64 0, .bool false, .bool false, .string ⟨#[]⟩] 33)) = y4 at *
          refine wpAnyH_ready (rs := [17]) (by kernel_rfl) (by simp) ?_
          refine AllReadyH.cons rfl (fun K hK => ?_) (AllReadyH.nil)
          obtain ⟨m0, m1, m2, m3⟩ := row4g (unhide HM4).1
          have z0 := frz (unhide HM4).1 0
          have z1 := frz (unhide HM4).1 1
          have z2 := frz (unhide HM4).1 2
          have z3 := frz (unhide HM4).1 3
          go_wp2_with fail
          refine hK.out _ _ trivial (fun _ => ?_)
          clear hK K
          try simp only [Act.put, List.setIfInBounds_toArray, List.set_cons_zero, List.set_cons_succ, List.getElem_toArray, List.getElem_cons_zero, List.getElem_cons_succ]
          refine wpAnyH_done (by kernel_rfl) ?_ _
          go_wp2_with fail
          go_meet
          exact rrg_end (unhide HX4) (unhide HM4)
        · go_simp
          have hb5 : Below y1.heap.size y1 (y1.alloc (.cells #[.int .i64 0, .bool false, .bool false, .string ⟨#[]⟩] 33)) := (Below.refl _ _).alloc (Nat.le_refl _) _
          have HX5 := frag_put3 (unhide HX1) hb5
          have HL5 := hide (And.intro ((unhide HL1).1.below hb5 (unhide HL1).2) (Nat.lt_of_lt_of_le (unhide HL1).2 hb5.size))
          have HM5 := hide (And.intro (heap_alloc_new y1 (.cells #[.int .i64 0, .bool false, .bool false, .string ⟨#[]⟩] 33)) (unhide HX1).2.2)
          refine hK.out _ _ trivial (fun _ => ?_)
          clear hK K
          try simp only [Act.put, List.setIfInBounds_toArray, List.set_cons_zero, List.set_cons_succ, List.getElem_toArray, List.getElem_cons_zero, List.getElem_cons_succ]
          obtain ⟨M5, hM5⟩ : ∃ M, y1.heap.size = M := ⟨_, rfl⟩
          rw [hM5] at HM5 ⊢
          clear hb5 hM5
          generalize (y1.alloc (.cells #[.int .i64 0, .bool false, .bool false, .string ⟨#[]⟩] 33)) = y5 at *
          refine wpAnyH_ready (rs := [14]) (by kernel_rfl) (by simp) ?_
          refine AllReadyH.cons rfl (fun K hK => ?_) (AllReadyH.nil)
          go_simp
          refine (unhide CL _).mono ?_
          rintro r y6 ⟨rfl, hb6⟩
          have HX6 := frag_put3 (unhide HX5) hb6
          have HM6 := hide (And.intro ((hb6.block _ (Array.getElem?_eq_some_iff.1 (unhide HM5).1).1).trans (unhide HM5).1) (unhide HM5).2)
          have HL6 := hide (And.intro ((unhide HL5).1.below hb6 (unhide HL5).2) (Nat.lt_of_lt_of_le (unhide HL5).2 hb6.size))
          clear hb6
          go_wp2_with fail
          refine hK.out _ _ trivial (fun _ => ?_)
          clear hK K
          try simp only [Act.put, List.setIfInBounds_toArray, List.set_cons_zero, List.set_cons_succ, List.getElem_toArray, List.getElem_cons_zero, List.getElem_cons_succ]
          refine wpAnyH_take (i := 15) (v := ?ve615) rfl (by kernel_rfl) (by kernel_rfl) (by kernel_rfl) (fun _ _ _ h => h) (Or.inl ⟨by rfl, ?hye615⟩) (by assumption) ?_
          case hye615 =>
            intro w hSw
            try dsimp only at hSw
            go_simp
            try with_reducible rfl
          try simp only [Act.put, List.setIfInBounds_toArray, List.set_cons_zero, List.set_cons_succ, List.getElem_toArray, List.getElem_cons_zero, List.getElem_cons_succ]
          refine wpAnyH_ready (rs := [17]) (by kernel_rfl) (by simp) ?_
          refine AllReadyH.cons rfl (fun K hK => ?_) (AllReadyH.nil)
          obtain ⟨m0, m1, m2, m3⟩ := row4g (unhide HM6).1
          have z0 := frz (unhide HM6).1 0
          have z1 := frz (unhide HM6).1 1
          have z2 := frz (unhide HM6).1 2
          have z3 := frz (unhide HM6).1 3
          go_wp2_with fail
          refine hK.out _ _ trivial (fun _ => ?_)
          clear hK K
          try simp only [Act.put, List.setIfInBounds_toArray, List.set_cons_zero, List.set_cons_succ, List.getElem_toArray, List.getElem_cons_zero, List.getElem_cons_succ]
          refine wpAnyH_done (by kernel_rfl) ?_ _
          go_wp2_with fail
          go_meet
          exact rrg_end (unhide HX6) (unhide HM6)
      · go_simp
        have hb7 : Below y1.heap.size y1 (y1.alloc (.cells #[.int .i64 0, .bool false, .bool false, .string ⟨#[]⟩] 33)) := (Below.refl _ _).alloc (Nat.le_refl _) _
        have HX7 := frag_put3 (unhide HX1) hb7
        have HL7 := hide (And.intro ((unhide HL1).1.below hb7 (unhide HL1).2) (Nat.lt_of_lt_of_le (unhide HL1).2 hb7.size))
        have HM7 := hide (And.intro (heap_alloc_new y1 (.cells #[.int .i64 0, .bool false, .bool false, .string ⟨#[]⟩] 33)) (unhide HX1).2.2)
        refine hK.out _ _ trivial (fun _ => ?_)
        clear hK K
        try simp only [Act.put, List.setIfInBounds_toArray, List.set_cons_zero, List.set_cons_succ, List.getElem_toArray, List.getElem_cons_zero, List.getElem_cons_succ]
        obtain ⟨M7, hM7⟩ : ∃ M, y1.heap.size = M := ⟨_, rfl⟩
        rw [hM7] at HM7 ⊢
        clear hb7 hM7
        generalize (y1.alloc (.cells #[.int .i64 0, .bool false, .bool false, .string ⟨#[]⟩] 33)) = y7 at *
        refine wpAnyH_ready (rs := [3]) (by kernel_rfl) (by simp) ?_
        refine AllReadyH.cons rfl (fun K hK => ?_) (AllReadyH.nil)
        go_simp
        refine (unhide CH _ _ _ (unhide HL7).1).mono ?_
        rintro r y8 ⟨rfl, hy8⟩
        replace hy8 := hy8.symm
        subst hy8
        go_wp2_with fail
        refine hK.out _ _ trivial (fun _ => ?_)
        clear hK K
        try simp only [Act.put, List.setIfInBounds_toArray, List.set_cons_zero, List.set_cons_succ, List.getElem_toArray, List.getElem_cons_zero, List.getElem_cons_succ]
        refine wpAnyH_ready (rs := [14]) (by kernel_rfl) (by simp) ?_
        refine AllReadyH.cons rfl (fun K hK => ?_) (AllReadyH.nil)
        go_simp
        refine (unhide CL _).mono ?_
        rintro r y9 ⟨rfl, hb9⟩
        have HX9 := frag_put3 (unhide HX7) hb9
        have HM9 := hide (And.intro ((hb9.block _ (Array.getElem?_eq_some_iff.1 (unhide HM7).1).1).trans (unhide HM7).1) (unhide HM7).2)
        have HL9 := hide (And.intro ((unhide HL7).1.below hb9 (unhide HL7).2) (Nat.lt_of_lt_of_le (unhide HL7).2 hb9.size))
        clear hb9
        go_wp2_with fail
        refine hK.out _ _ trivial (fun _ => ?_)
        clear hK K
        try simp only [Act.put, List.setIfInBounds_toArray, List.set_cons_zero, List.set_cons_succ, List.getElem_toArray, List.getElem_cons_zero, List.getElem_cons_succ]
        refine wpAnyH_take (i := 15) (v := ?ve915) rfl (by kernel_rfl) (by kernel_rfl) (by kernel_rfl) (fun _ _ _ h => h) (Or.inl ⟨by rfl, ?hye915⟩) (by assumption) ?_
        case hye915 =>
          intro w hSw
          try dsimp only at hSw
          go_simp
          try with_reducible rfl
        try simp only [Act.put, List.setIfInBounds_toArray, List.set_cons_zero, List.set_cons_succ, List.getElem_toArray, List.getElem_cons_zero, List.getElem_cons_succ]
        refine wpAnyH_ready (rs := [17]) (by kernel_rfl) (by simp) ?_
        refine AllReadyH.cons rfl (fun K hK => ?_) (AllReadyH.nil)
        obtain ⟨m0, m1, m2, m3⟩ := row4g (unhide HM9).1
        have z0 := frz (unhide HM9).1 0
        have z1 := frz (unhide HM9).1 1
        have z2 := frz (unhide HM9).1 2
        have z3 := frz (unhide HM9).1 3
        go_wp2_with fail
        refine hK.out _ _ trivial (fun _ => ?_)
        clear hK K
        try simp only [Act.put, List.setIfInBounds_toArray, List.set_cons_zero, List.set_cons_succ, List.getElem_toArray, List.getElem_cons_zero, List.getElem_cons_succ]
        refine wpAnyH_done (by kernel_rfl) ?_ _
        go_wp2_with fail
        go_meet
        exact rrg_end (unhide HX9) (unhide HM9)
    · go_simp
      have hb10 : Below y.heap.size y (y.alloc (.cells #[.int .i64 0, .bool false, .bool false, .string ⟨#[]⟩] 33)) := (Below.refl _ _).alloc (Nat.le_refl _) _
      have HX10 := frag_put3 (unhide HY) hb10
      have HM10 := hide (And.intro (heap_alloc_new y (.cells #[.int .i64 0, .bool false, .bool false, .string ⟨#[]⟩] 33)) (unhide HY).2.2)
      refine hK.out _ _ trivial (fun _ => ?_)
      clear hK K
      try simp only [Act.put, List.setIfInBounds_toArray, List.set_cons_zero, List.set_cons_succ, List.getElem_toArray, List.getElem_cons_zero, List.getElem_cons_succ]
      obtain ⟨M10, hM10⟩ : ∃ M, y.heap.size = M := ⟨_, rfl⟩
      rw [hM10] at HM10 ⊢
      clear hb10 hM10
      generalize (y.alloc (.cells #[.int .i64 0, .bool false, .bool false, .string ⟨#[]⟩] 33)) = y10 at *
      refine wpAnyH_ready (rs := [2]) (by kernel_rfl) (by simp) ?_
      refine AllReadyH.cons rfl (fun K hK => ?_) (AllReadyH.nil)
      go_simp
      have hb11 := (unhide HN y10).2.1
      have HX11 := frag_put3 (unhide HX10) hb11
      have HM11 := hide (And.intro ((hb11.block _ (Array.getElem?_eq_some_iff.1 (unhide HM10).1).1).trans (unhide HM10).1) (unhide HM10).2)
      have HL11 := hide (And.intro (unhide HN y10).1 (unhide HN y10).2.2)
      refine hK.out _ _ trivial (fun _ => ?_)
      clear hK K
      try simp only [Act.put, List.setIfInBounds_toArray, List.set_cons_zero, List.set_cons_succ, List.getElem_toArray, List.getElem_cons_zero, List.getElem_cons_succ]
      clear hb11
      generalize nx y10 = y11 at *
      generalize y10.heap.size = B11 at HL11 ⊢
      generalize cap y10 = cp11 at *
      refine wpAnyH_ready (rs := [3]) (by kernel_rfl) (by simp) ?_
      refine AllReadyH.cons rfl (fun K hK => ?_) (AllReadyH.nil)
      go_simp
      refine (unhide CH _ _ _ (unhide HL11).1).mono ?_
      rintro r y12 ⟨rfl, hy12⟩
      replace hy12 := hy12.symm
      subst hy12
      go_wp2_with fail
      refine hK.out _ _ trivial (fun _ => ?_)
      clear hK K
      try simp only [Act.put, List.setIfInBounds_toArray, List.set_cons_zero, List.set_cons_succ, List.getElem_toArray, List.getElem_cons_zero, List.getElem_cons_succ]
      refine wpAnyH_ready (rs := [14]) (by kernel_rfl) (by simp) ?_
      refine AllReadyH.cons rfl (fun K hK => ?_) (AllReadyH.nil)
      go_simp
      refine (unhide CL _).mono ?_
      rintro r y13 ⟨rfl, hb13⟩
      have HX13 := frag_put3 (unhide HX11) hb13
      have HM13 := hide (And.intro ((hb13.block _ (Array.getElem?_eq_some_iff.1 (unhide HM11).1).1).trans (unhide HM11).1) (unhide HM11).2)
      have HL13 := hide (And.intro ((unhide HL11).1.below hb13 (unhide HL11).2) (Nat.lt_of_lt_of_le (unhide HL11).2 hb13.size))
      clear hb13
      go_wp2_with fail
      refine hK.out _ _ trivial (fun _ => ?_)
      clear hK K
      try simp only [Act.put, List.setIfInBounds_toArray, List.set_cons_zero, List.set_cons_succ, List.getElem_toArray, List.getElem_cons_zero, List.getElem_cons_succ]
      refine wpAnyH_take (i := 15) (v := ?ve1315) rfl (by kernel_rfl) (by kernel_rfl) (by kernel_rfl) (fun _ _ _ h => h) (Or.inl ⟨by rfl, ?hye1315⟩) (by assumption) ?_
      case hye1315 =>
        intro w hSw
        try dsimp only at hSw
        go_simp
        try with_reducible rfl
      try simp only [Act.put, List.setIfInBounds_toArray, List.set_cons_zero, List.set_cons_succ, List.getElem_toArray, List.getElem_cons_zero, List.getElem_cons_succ]
      refine wpAnyH_ready (rs := [17]) (by kernel_rfl) (by simp) ?_
      refine AllReadyH.cons rfl (fun K hK => ?_) (AllReadyH.nil)
      obtain ⟨m0, m1, m2, m3⟩ := row4g (unhide HM13).1
      have z0 := frz (unhide HM13).1 0
      have z1 := frz (unhide HM13).1 1
      have z2 := frz (unhide HM13).1 2
      have z3 := frz (unhide HM13).1 3
      go_wp2_with fail
      refine hK.out _ _ trivial (fun _ => ?_)
      clear hK K
      try simp only [Act.put, List.setIfInBounds_toArray, List.set_cons_zero, List.set_cons_succ, List.getElem_toArray, List.getElem_cons_zero, List.getElem_cons_succ]
      refine wpAnyH_done (by kernel_rfl) ?_ _
      go_wp2_with fail
      go_meet
      exact rrg_end (unhide HX13) (unhide HM13)
  case rest =>
    obtain ⟨M, rfl, hM, hlt, hO3, hB3⟩ := hcut
    rename World => w3
    have hM3 : M < w3.heap.size := (Array.getElem?_eq_some_iff.1 hM).1
    obtain ⟨m0, m1, m2, m3⟩ := row4g hM
    have HQ := hide (And.intro hM (And.intro hO3 (And.intro hB3 (And.intro hlt hM3))))
    clear hM hO3 hB3 hO CH CL HN hcv gx gy b1 b2 hlt hM3
    generalize fgByte ⟨(n : Int), bg, fn, U⟩ = V at CF hby
    go_upto_region 4 with fail
    go_region_held (fun q => q.cell? ⟨M, 0, none⟩ = some (.int .i64 n) ∧ q.cell? ⟨M, 1, none⟩ = some (.bool bg) ∧ q.cell? ⟨M, 2, none⟩ = some (.bool fn) ∧ q.cell? ⟨M, 3, none⟩ = some (.string U)) (go_keep) (first
      | (go_at_call 40; refine (unhide CF _).mono ?_; rintro e w4 ⟨rfl, hb4⟩
         have HE := rd_end (unhide HQ) (und hb4)
         obtain ⟨k0, k1, k2, k3⟩ := row4g (unhide HE).1
         obtain ⟨o0, o1, o2, o3⟩ := row4g (unhide HE).2.1
         have z0 := frz (unhide HE).2.1 0
         have z1 := frz (unhide HE).2.1 1
         have z2 := frz (unhide HE).2.1 2
         have z3 := frz (unhide HE).2.1 3
         have hne := (unhide HE).2.2.2.1
         have hne' := (unhide HE).2.2.2.2
         clear hb4))
    all_goals
      by_cases h64 : c.toNat % 64 = 0
      · have e : V = c := hby.2 h64
        subst e
        have hR := unhide HR
        rw [if_pos h64] at hR
        subst hR
        clear hby
        go_wp2
        refine bodyPost_ret (v := .agg #[.int .i64 n, .bool bg, .bool fn, .string U]) (by simp [results, Try.results10, asAddr, load4g (set4_fg (unhide HE).2.1 (.int .i64 n) (.bool bg) (.bool fn) (.string U))]) rfl ⟨rfl, ?_⟩
        exact set4_fgb (unhide HE).2.2.1 (Nat.le_refl _) _ _ _ _
      · have e := u8_ne (fun e => h64 (hby.1 e))
        have hR := unhide HR
        rw [if_neg h64] at hR
        subst hR
        clear hby
        go_wp2
        refine bodyPost_ret (v := .agg #[.int .i64 0, .bool false, .bool false, .string ⟨#[]⟩]) (by simp [results, Try.results10, asAddr, load4g (set4_fg (unhide HE).2.1 (.int .i64 0) (.bool false) (.bool false) (.string ⟨#[]⟩))]) rfl ⟨rfl, ?_⟩
        exact set4_fgb (unhide HE).2.2.1 (Nat.le_refl _) _ _ _ _
theorem iFgRead (t : ByteArray) (w : World) (h2 : t.size ≤ maxLen) : Calls Try.prog 10 #[.string t] w fun e w' => e = .returned (fgV (fgRead t)) ∧ Below w.heap.size w w' := by
  by_cases h : t.size < 4 ∨ 204 < t.size
  · rw [fgRead_no h]
    exact iFgRead_no t w h h2
  · obtain ⟨c, c1, c2, c3, u, hd⟩ := four_of (t := t) (by omega)
    rw [fgRead_at hd (by omega)]
    exact iFgRead_at t c c1 c2 c3 u hd w (by omega)
end Go.Proofs.Ytfkeokfmancgiaa
