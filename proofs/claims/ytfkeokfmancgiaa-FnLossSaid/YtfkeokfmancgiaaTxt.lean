/- Texts as lists of bytes, and rows of bytes that the call made: appending, making, turning into a text; no condition. -/
import Derived.Test.YtfkeokfmancgiaaOwn
namespace Go.Proofs.Ytfkeokfmancgiaa
open Go.RowKit
/-- A text of these bytes. -/
def txt (l : List UInt8) : ByteArray := ⟨l.toArray⟩
def nums (l : List UInt8) : List Int := l.map fun c => (c.toNat : Int)
def vals (l : List UInt8) : List Value := (nums l).map (Value.int .u8)
theorem txt_nums (l : List UInt8) : strOfNums (nums l) = txt l := by
  unfold strOfNums nums txt
  rw [List.map_map]
  congr 2
  conv => rhs; rw [← List.map_id l]
  apply List.map_congr_left
  intro x _
  simp
theorem txt_data (t : ByteArray) : txt t.data.toList = t := rfl
theorem data_txt (l : List UInt8) : (txt l).data.toList = l := rfl
theorem txt_size (l : List UInt8) : (txt l).size = l.length := by simp [txt, ByteArray.size]
theorem vals_len (l : List UInt8) : (vals l).length = l.length := by simp [vals, nums]
theorem vals_append (l m : List UInt8) : vals (l ++ m) = vals l ++ vals m := by simp [vals, nums]
theorem vals_one (c : UInt8) : vals [c] = [.int .u8 c.toNat] := rfl
theorem vals_two (c d : UInt8) : vals [c, d] = [.int .u8 c.toNat, .int .u8 d.toNat] := rfl
theorem u8_ne {c d : UInt8} (h : c ≠ d) : ((c.toNat : Int) == (d.toNat : Int)) = false := by
  refine beq_eq_false_iff_ne.2 fun e => h (UInt8.toNat_inj.1 (by omega))
theorem own_conv {w : World} {base : Nat} {v : Value} {n : Nat} {l : List UInt8} (h : w.ownsRow base 5 1 v n (vals l)) :
    (convert 22 9 v).run Try.prog w = .ok (.string (txt l)) w := by
  rw [← txt_nums]
  exact conv_own h
theorem append_bytes {wr : World} {cs : Array Value} {ops : Array Oper} {rest : List Oper} {o : Oper} {a : Act} {Q : Exit → Act → World → Prop} (hgd : o.guard = none) (s x : Operand)
    (ho : o.op = .call { callee := .builtin .append, args := #[s, x], argTypes := #[22, 22] })
    (base : Nat) (v : Value) (L news : List UInt8) (hs : a.eval s = v) (hown : wr.ownsRow base 5 1 v L.length (vals L))
    (m : Nat) (hm : news.length = m) (hx : a.eval x = .slice (some ⟨wr.heap.size, 0, none⟩) m m) (hcs : cs.toList = vals news) (hlen : L.length + news.length ≤ 10000000) (hbase : base ≤ wr.heap.size)
    (h : ∀ v' w', w'.ownsRow base 5 1 v' (L ++ news).length (vals (L ++ news)) → Below base wr w' → wpList Try.prog ops Q rest (a.put o.dst v') w') : wpList Try.prog ops Q (o :: rest) a (wr.alloc (.cells cs 5)) := by
  obtain ⟨ui, hi1, hi2, hi3, hi4⟩ := u8info
  subst hm
  refine wpList_append_own _ hgd s x 22 ho base 5 ui (.int .u8 0) 1 1 Try.underlying22 hi1 hi2 hi3 hi4 rfl (by decide) v L.length (vals L) hs (hown.alloc _) ⟨wr.heap.size, 0, none⟩ news.length news.length (vals news) hx (by rw [vals_len, Nat.mul_one]) ?_ ?_ ?_ ?_ ?_ ?_
  · intro i u hu
    rw [Addr.add_lit, Nat.zero_add, World.cell?_alloc_at _ _ _ _ rfl, ← hu, ← hcs, Array.getElem?_toList]
  · intro u hu
    simp only [vals, nums, List.map_map, List.mem_map] at hu
    obtain ⟨x, _, rfl⟩ := hu
    rfl
  · unfold maxLen; omega
  · omega
  · simp; omega
  · intro v' w2 hown2 hg2 _
    refine h v' w2 ?_ ?_
    · rw [vals_append, List.length_append]; exact hown2
    · exact ((Below.refl _ _).alloc hbase _).grown hg2 (by simp; omega) (fun q hq => by exact (World.ownsRow.lt hown q hq).1)
theorem mk_bytes {w : World} {ops : Array Oper} {rest : List Oper} {o : Oper} {a : Act} {Q : Exit → Act → World → Prop} (hg : o.guard = none) (l c : Operand) (hop : o.op = Op.makeSlice 22 l c)
    (base : Nat) (C : Int) (n : Nat) (hl : a.eval l = .int .i64 0) (hc : a.eval c = .int .i64 C) (hC : C = (n : Int)) (hn : n ≤ 1000000) (hb : base ≤ w.heap.size)
    (hK : ∀ v w', w'.ownsRow base 5 1 v 0 (vals []) → Below base w w' → wpList Try.prog ops Q rest (a.put o.dst v) w') : wpList Try.prog ops Q (o :: rest) a w := by
  obtain ⟨ui, hi1, hi2, hi3, hi4⟩ := u8info
  refine wpList_make_own w hg l c 22 hop base 5 ui (.int .u8 0) 1 Try.underlying22 hi1 hi2 hi3 .i64 .i64 C n hl hc hC (by rw [hi4]; omega) (by unfold maxLen; omega) hb fun w' h1 h2 => ?_
  exact hK _ w' h1 ((Below.refl _ _).grown h2 hb (fun k hk => by cases hk))
theorem own_form {w : World} {base : Nat} {e : TypeId} {size : Nat} {v : Value} {n : Nat} {xs : List Value} (h : w.ownsRow base e size v n xs) : ∃ ad cp, v = .slice ad n cp := by
  rcases h.2 with ⟨rfl, rfl⟩ | ⟨g, cap, cur, rfl, _⟩
  · exact ⟨_, _, rfl⟩
  · exact ⟨_, _, rfl⟩
theorem frz {w : World} {B : Nat} {cs : Array Value} {T : TypeId} (h : w.heap[B]? = some (.cells cs T)) (o : Nat) : w.frozen? ⟨B, o, none⟩ = false := by simp [World.frozen?, h]
end Go.Proofs.Ytfkeokfmancgiaa
