/- The program's end at work: an event happens; what lay in memory stands. -/
import Derived.Test.YtahpjlbaagkdoaaGreatDoorS18
import Derived.Test.YtahpjlbaagkdoaaGreatDoorS19
import Derived.Test.YtahpjlbaagkdoaaGreatDoorS01
import Derived.Test.YtahpjlbaagkdoaaGreatDoorShW
namespace Go.Proofs.YtahpjlbaagkdoaaGreatDoor
open Go.RowKit
theorem asSet (v : Value) (W : World) : (Instr.typeAssert (.iface 133 v) 129 133 true).run Tryz.prog W = .ok (.tuple #[v, .bool true]) W := by kernel_rfl
theorem asTell (v : Value) (W : World) : (Instr.typeAssert (.iface 135 v) 129 135 true).run Tryz.prog W = .ok (.tuple #[v, .bool true]) W := by kernel_rfl
theorem noSet_tell (v : Value) (W : World) : (Instr.typeAssert (.iface 135 v) 129 133 true).run Tryz.prog W = .ok (.tuple #[.agg #[.int .i64 0], .bool false]) W := by kernel_rfl
theorem noSet_sendRequest (v : Value) (W : World) : (Instr.typeAssert (.iface 158 v) 129 133 true).run Tryz.prog W = .ok (.tuple #[.agg #[.int .i64 0], .bool false]) W := by kernel_rfl
theorem noTell_sendRequest (v : Value) (W : World) : (Instr.typeAssert (.iface 158 v) 129 135 true).run Tryz.prog W = .ok (.tuple #[.agg #[.string ⟨#[]⟩], .bool false]) W := by kernel_rfl
theorem noSet_sendEnd (v : Value) (W : World) : (Instr.typeAssert (.iface 159 v) 129 133 true).run Tryz.prog W = .ok (.tuple #[.agg #[.int .i64 0], .bool false]) W := by kernel_rfl
theorem noTell_sendEnd (v : Value) (W : World) : (Instr.typeAssert (.iface 159 v) 129 135 true).run Tryz.prog W = .ok (.tuple #[.agg #[.string ⟨#[]⟩], .bool false]) W := by kernel_rfl
theorem noSet_sendAnswer (v : Value) (W : World) : (Instr.typeAssert (.iface 160 v) 129 133 true).run Tryz.prog W = .ok (.tuple #[.agg #[.int .i64 0], .bool false]) W := by kernel_rfl
theorem noTell_sendAnswer (v : Value) (W : World) : (Instr.typeAssert (.iface 160 v) 129 135 true).run Tryz.prog W = .ok (.tuple #[.agg #[.string ⟨#[]⟩], .bool false]) W := by kernel_rfl
theorem noSet_sendEndAck (v : Value) (W : World) : (Instr.typeAssert (.iface 161 v) 129 133 true).run Tryz.prog W = .ok (.tuple #[.agg #[.int .i64 0], .bool false]) W := by kernel_rfl
theorem noTell_sendEndAck (v : Value) (W : World) : (Instr.typeAssert (.iface 161 v) 129 135 true).run Tryz.prog W = .ok (.tuple #[.agg #[.string ⟨#[]⟩], .bool false]) W := by kernel_rfl
theorem noSet_sendCodeFault (v : Value) (W : World) : (Instr.typeAssert (.iface 162 v) 129 133 true).run Tryz.prog W = .ok (.tuple #[.agg #[.int .i64 0], .bool false]) W := by kernel_rfl
theorem noTell_sendCodeFault (v : Value) (W : World) : (Instr.typeAssert (.iface 162 v) 129 135 true).run Tryz.prog W = .ok (.tuple #[.agg #[.string ⟨#[]⟩], .bool false]) W := by kernel_rfl
theorem noSet_sendEcho (v : Value) (W : World) : (Instr.typeAssert (.iface 163 v) 129 133 true).run Tryz.prog W = .ok (.tuple #[.agg #[.int .i64 0], .bool false]) W := by kernel_rfl
theorem noTell_sendEcho (v : Value) (W : World) : (Instr.typeAssert (.iface 163 v) 129 135 true).run Tryz.prog W = .ok (.tuple #[.agg #[.string ⟨#[]⟩], .bool false]) W := by kernel_rfl
theorem setT_of (t : ByteArray) : setT t = (decide (t.data.toList = [105, 114, 99]) || decide (t.data.toList = [122, 114, 99])) := by
 unfold setT
 rw [ByteArray.toList_eq]
theorem dueE_end (c : Cx) (A : List ByteArray) (st : Int) (e : En) (h : -1 ≤ e.du) : dueE c.now (A.any setT) { e with st := st } = endE c A st e := by
 have hd : decide (e.du < 0) = (e.du == -1) := by
  by_cases h1 : e.du = -1
  ·rw [h1]; rfl
  ·rw [beq_eq_false_iff_ne.2 h1, decide_eq_false (by omega)]
 unfold dueE endE
 dsimp only
 rw [hd, Bool.or_comm]
theorem appTxtO {w : World} {o : Oper} {a : Act} {K : Act → World → Prop} {Q : Exit → Act → World → Prop} (s x : Operand)
  (ho : o.op = .call { callee := .builtin .append, args := #[s, x], argTypes := #[40, 40] })
  (base : Nat) (v : Value) (L : List ByteArray) (n : Nat) (hs : a.eval s = v) (hown : w.ownsRow base 9 1 v n (scells L)) (t : ByteArray) (hx : a.eval x = .slice (some ⟨w.heap.size, 0, none⟩) 1 1) (hlen : n ≤ 1000000) (hbase : base ≤ w.heap.size)
  (h : ∀ v' w', w'.ownsRow base 9 1 v' (n + 1) (scells (L ++ [t])) → (w.alloc (.cells #[.string t] 9)).grownBy w' v.ownBlock → K (a.put o.dst v') w') : o.wp Tryz.prog a (w.alloc (.cells #[.string t] 9)) K Q := by
 obtain ⟨i0, hi0, hz0, hz1, hz2⟩ := sinfo
 refine wp_append_own _ s x 40 ho base 9 i0 _ 1 16 Tryz.underlying40 hi0 hz0 hz1 hz2 rfl (by decide) v n (scells L) hs (hown.alloc _) ⟨w.heap.size, 0, none⟩ 1 1 [.string t] hx rfl ?_ ?_ ?_ ?_ ?_ ?_
 ·intro i u hu
  rw [Addr.add_lit, Nat.zero_add, World.cell?_alloc_at _ _ _ _ rfl, ← hu]
  simp
 ·intro u hu
  simp only [List.mem_cons, List.not_mem_nil, or_false] at hu
  rw [hu]
  rfl
 ·unfold maxLen; omega
 ·omega
 ·simp; omega
 ·intro v' w2 hown2 hg2 _
  refine h v' w2 ?_ hg2
  rw [scells_append]
  exact hown2
theorem wp_runI {P : Program} {o : Oper} {a : Act} {w w' : World} {K : Act → World → Prop} {Q : Exit → Act → World → Prop} {v : Value} (hrun : (execOp a.eval o).run P w = .ok (.value v) w') (h : K (a.put o.dst v) w') : Oper.wp P o a w K Q := by
 unfold Oper.wp
 rw [hrun, Oper.upon_value]
 exact h
theorem Lay.free {T : TypeId} {w0 w1 : World} {B : Nat} {c : Cx} {s : St} {v1 v2 : Value} {q : World} (h : Lay T w0 w1 B c s v1 v2 (.slice none 0 0) (.slice none 0 0) q) (Y : Nat) {old : Array Value} (cs : Array Value) {T' : TypeId} (hY : q.heap[Y]? = some (.cells old T')) (nB : B ≠ Y) (hT1 : T' ≠ 116) (hw : w0.heap.size ≤ Y) (hs : s.sn = []) (ht : s.tl = []) :
  Lay T w0 (q.setRow Y cs) B c s v1 v2 (.slice none 0 0) (.slice none 0 0) (q.setRow Y cs) := by
 have hk : ∀ k, k ≠ Y → (q.setRow Y cs).heap[k]? = q.heap[k]? := fun k hk => by unfold World.setRow; simp [Array.getElem?_modify, Ne.symm hk]
 exact ⟨(hk B nB).trans h.row, own_other h.o1 fun g hg => hk g fun e => own_ty h.o1 hY hT1 (e ▸ hg), own_other h.o2 fun g hg => hk g fun e => own_ty h.o2 hY hT1 (e ▸ hg), by rw [hs]; exact World.ownsRow_nil _ _ _ _, by rw [ht]; exact World.ownsRow_nil _ _ _ _, own_other h.oh fun g hg => hk g fun e => own_ty h.oh hY hT1 (e ▸ hg), hold_ty h.ha hY hT1 fun k _ => hk k, h.hB, h.tt, h.ap, h.aph, below_row h.low hw _, Nr.refl _ _⟩
end Go.Proofs.YtahpjlbaagkdoaaGreatDoor
