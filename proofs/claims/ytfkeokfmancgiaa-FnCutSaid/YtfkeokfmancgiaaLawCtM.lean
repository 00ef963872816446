/- The law FnCut walked: it returns true, and what lay in memory stands. -/
import Derived.Test.YtfkeokfmancgiaaGA
import Derived.Test.YtfkeokfmancgiaaGB
import Derived.Test.YtfkeokfmancgiaaGC
import Derived.Test.YtfkeokfmancgiaaGD
import Derived.Test.YtfkeokfmancgiaaDrawCtM
import Derived.Test.YtfkeokfmancgiaaGF
import Derived.Test.YtfkeokfmancgiaaFgEq
import Derived.Deep.DeepCutAuto
import Derived.Deep.RegionHeld3
namespace Go.Proofs.Ytfkeokfmancgiaa
open Go.RowKit
/-- All blocks but those of one kind stand. -/
def Stay (T : TypeId) (q q' : World) : Prop := ∀ (g : Nat) (cur : Array Value) (S : TypeId), q.heap[g]? = some (Obj.cells cur S) → S ≠ T → q'.heap[g]? = some (Obj.cells cur S)
theorem HoldsG.stay {T : TypeId} {q q' : World} {v : Value} {F : List Fg} (h : HoldsG q v F) (hT : 33 ≠ T) (hk : Stay T q q') : HoldsG q' v F :=
  h.imp id fun ⟨g, cp, cur, h1, h2, h3⟩ => ⟨g, cp, cur, h1, hk _ _ _ h2 hT, h3⟩
theorem HoldsI.stay {T : TypeId} {q q' : World} {v : Value} {L : List Int} (h : HoldsI q v L) (hT : 2 ≠ T) (hk : Stay T q q') : HoldsI q' v L :=
  h.imp id fun ⟨g, cp, cur, h1, h2, h3⟩ => ⟨g, cp, cur, h1, hk _ _ _ h2 hT, h3⟩
theorem own_stay {T : TypeId} {q q' : World} {base : Nat} {e : TypeId} {size : Nat} {v : Value} {n : Nat} {xs : List Value} (h : q.ownsRow base e size v n xs) (hT : e ≠ T) (hk : Stay T q q') : q'.ownsRow base e size v n xs :=
  ⟨h.1, h.2.imp id fun ⟨g, cap, cur, p1, p2, p3, p4⟩ => ⟨g, cap, cur, p1, p2, hk _ _ _ p3 hT, p4⟩⟩
theorem stay_set {T : TypeId} {q : World} {B o : Nat} {cs : Array Value} (hB : q.heap[B]? = some (.cells cs T)) (x : Value) : Stay T q (q.setCell ⟨B, o, none⟩ x) := by
  intro g cur S hg hS
  refine (Below.heap_setCell _ _ _ _ ?_).trans hg
  show g ≠ B
  intro e
  subst e
  rw [hB] at hg
  injection hg with hg
  injection hg with _ hg
  exact hS hg.symm
theorem stay_grown {T : TypeId} {q q' : World} {base size n : Nat} {v : Value} {xs : List Value} (ho : q.ownsRow base T size v n xs) (h : q.grownBy q' v.ownBlock) : Stay T q q' := by
  intro g cur S hg hS
  refine (h.block g (Array.getElem?_eq_some_iff.1 hg).1 ?_).trans hg
  intro e
  rcases ho.2 with ⟨e1, _⟩ | ⟨g', cap, cur', e1, _, e3, _⟩
  · rw [e1] at e; cases e
  · rw [e1] at e
    cases e
    rw [e3] at hg
    injection hg with hg
    injection hg with _ hg
    exact hS hg.symm
/-- What the law has laid. -/
structure Cs (w q : World) (B : Nat) (x1 x2 : Option Addr) (y1 y2 : Nat) (F : List Fg) (p : Int) (P : List Fg) (a1 a2 : Option Addr) (c1 c2 : Nat) (gv : Value) (G : List ByteArray) : Prop where
  b : q.heap[B]? = some (.cells #[.slice a1 1 c1, .slice a2 P.length c2] 29)
  l : HoldsI q (.slice a1 1 c1) [p]
  r : HoldsG q (.slice a2 P.length c2) P
  f1 : HoldsG q (.slice x1 F.length y1) F
  f2 : HoldsG q (.slice x2 F.length y2) F
  g : q.ownsRow w.heap.size 9 1 gv G.length (scells G)
  bw : Below w.heap.size w q
  bB : w.heap.size ≤ B
variable {w q q' : World} {B : Nat} {x1 x2 : Option Addr} {y1 y2 : Nat} {F : List Fg} {p p' : Int} {P P' : List Fg} {a1 a2 a1' a2' : Option Addr} {c1 c2 c1' c2' : Nat} {gv gv' : Value} {G G' : List ByteArray}
theorem own_lo9 {w w' : World} {base : Nat} {e : TypeId} {size : Nat} {v : Value} {n : Nat} {xs : List Value} (h : w.ownsRow base e size v n xs) (hb : Below w.heap.size w w') : w'.ownsRow base e size v n xs :=
  ⟨h.1, h.2.imp id fun ⟨g, cap, cur, p1, p2, p3, p4⟩ => ⟨g, cap, cur, p1, p2, (hb.block g (Array.getElem?_eq_some_iff.1 p3).1).trans p3, p4⟩⟩
theorem Cs.step (h : Cs w q B x1 x2 y1 y2 F p P a1 a2 c1 c2 gv G) (hb : Below q.heap.size q q') : Cs w q' B x1 x2 y1 y2 F p P a1 a2 c1 c2 gv G :=
  ⟨(hb.block _ (Array.getElem?_eq_some_iff.1 h.b).1).trans h.b, h.l.below hb rfl, h.r.below hb rfl, h.f1.below hb rfl, h.f2.below hb rfl, own_lo9 h.g hb, h.bw.trans (hb.mono h.bw.size), h.bB⟩
theorem Cs.setB (h : Cs w q B x1 x2 y1 y2 F p P a1 a2 c1 c2 gv G) (hl : HoldsI q (.slice a1' 1 c1') [p']) (hr : HoldsG q (.slice a2' P'.length c2') P') :
    Cs w ((q.setCell ⟨B, 0, none⟩ (.slice a1' 1 c1')).setCell ⟨B, 1, none⟩ (.slice a2' P'.length c2')) B x1 x2 y1 y2 F p' P' a1' a2' c1' c2' gv G := by
  have e1 := heap_setCell_same q B 0 _ _ (.slice a1' 1 c1') h.b
  have e2 := heap_setCell_same _ B 1 _ _ (.slice a2' P'.length c2') e1
  have k : Stay 29 q ((q.setCell ⟨B, 0, none⟩ (.slice a1' 1 c1')).setCell ⟨B, 1, none⟩ (.slice a2' P'.length c2')) := fun g cur S hg hS => stay_set e1 _ g cur S (stay_set h.b _ g cur S hg hS) hS
  exact ⟨e2, hl.stay (by decide) k, hr.stay (by decide) k, h.f1.stay (by decide) k, h.f2.stay (by decide) k, own_stay h.g (by decide) k, (h.bw.setCell (p := ⟨B, 0, none⟩) h.bB _).setCell (p := ⟨B, 1, none⟩) h.bB _, h.bB⟩
theorem Cs.app (h : Cs w q B x1 x2 y1 y2 F p P a1 a2 c1 c2 gv G) (hg : q.grownBy q' gv.ownBlock) (ho : q'.ownsRow w.heap.size 9 1 gv' G'.length (scells G')) : Cs w q' B x1 x2 y1 y2 F p P a1 a2 c1 c2 gv' G' := by
  have k := stay_grown h.g hg
  exact ⟨k _ _ _ h.b (by decide), h.l.stay (by decide) k, h.r.stay (by decide) k, h.f1.stay (by decide) k, h.f2.stay (by decide) k, ho, h.bw.grown hg h.bw.size (fun m hm => (World.ownsRow.lt h.g m hm).1), h.bB⟩
theorem HoldsG.get9 {q : World} {v : Value} {F : List Fg} (h : HoldsG q v F) (i : Nat) (hi : i < F.length) : ∃ g cp, v = .slice (some ⟨g, 0, none⟩) F.length cp ∧ g < q.heap.size ∧ q.cell? ⟨g, i * 4, none⟩ = some (.int .i64 F[i].seq) ∧ q.cell? ⟨g, i * 4 + 1, none⟩ = some (.bool F[i].beg) ∧ q.cell? ⟨g, i * 4 + 2, none⟩ = some (.bool F[i].fin) ∧ q.cell? ⟨g, i * 4 + 3, none⟩ = some (.string F[i].text) := by
  rcases h with ⟨ad, cp, e, e0⟩ | ⟨g, cp, cur, e, q1, q2, q3⟩
  · subst e0
    exact absurd hi (by simp)
  · have hg := fgcells_get F i F[i] (List.getElem?_eq_getElem hi)
    refine ⟨g, cp, e, (Array.getElem?_eq_some_iff.1 q1).1, ?_, ?_, ?_, ?_⟩
    all_goals rw [cell_of_row _ _ _ _ _ _ q1, q3 _ (by omega)]
    · exact hg.1
    · exact hg.2.1
    · exact hg.2.2.1
    · exact hg.2.2.2
theorem append_none9 {w : World} {ops : Array Oper} {rest : List Oper} {o : Oper} {a : Act} {Q : Exit → Act → World → Prop} (hgd : o.guard = none) (s x : Operand)
    (ho : o.op = .call { callee := .builtin .append, args := #[s, x], argTypes := #[31, 31] }) (ad ad' : Option Addr) (n cap c' : Nat) (hs : a.eval s = .slice ad n cap) (hx : a.eval x = .slice ad' 0 c') (hc : n ≤ cap)
    (h : wpList Try.prog ops Q rest (a.put o.dst (.slice ad n cap)) w) : wpList Try.prog ops Q (o :: rest) a w := by
  obtain ⟨i, hi, hz, hsz, hby⟩ := sinfo
  have hrun : (Builtin.append_ #[31, 31] o.type #[.slice ad n cap, .slice ad' 0 c']).run Try.prog w = .ok (.slice ad n cap) w := by
    have hu : Try.prog.underlying 31 = some (.slice 9) := Try.underlying31
    cases ad <;> cases ad' <;> simp [Builtin.append_, run_underlying hu, Builtin.lenOf, Builtin.firstCells, loadCells, loadCellsFrom, storeCells, hc]
  refine wpList_plain hgd fun K hK' => ?_
  unfold Oper.wp
  simp [execOp, ho, resolve, invoke, builtin, hs, hx, hrun, Result.andThen]
  exact hK' _ _ h
theorem append_one9 {w : World} {ops : Array Oper} {rest : List Oper} {o : Oper} {a : Act} {Q : Exit → Act → World → Prop} (hgd : o.guard = none) (s x : Operand)
    (ho : o.op = .call { callee := .builtin .append, args := #[s, x], argTypes := #[31, 31] }) (base b2 : Nat) (v : Value) (L : List ByteArray) (t : ByteArray) (ad : Option Addr) (c : Nat) (hs : a.eval s = v) (hx : a.eval x = .slice ad 1 c)
    (hown : w.ownsRow base 9 1 v L.length (scells L)) (hA : w.ownsRow b2 9 1 (.slice ad 1 c) 1 (scells [t])) (hL : L.length ≤ 1000) (hbase : base ≤ w.heap.size)
    (h : ∀ v' w', w'.ownsRow base 9 1 v' (L ++ [t]).length (scells (L ++ [t])) → w.grownBy w' v.ownBlock → wpList Try.prog ops Q rest (a.put o.dst v') w') : wpList Try.prog ops Q (o :: rest) a w := by
  obtain ⟨i, hi, hz, hsz, hby⟩ := sinfo
  rcases hA.2 with ⟨e, _⟩ | ⟨g, cap, cur, e, _, h3, _, _, _, h7⟩
  · cases e
  · cases e
    refine wpList_append_own w hgd s x 31 ho base 9 i _ 1 16 Try.underlying31 hi hz hsz hby rfl (by decide) v L.length (scells L) hs hown ⟨g, 0, none⟩ 1 c [.string t] hx rfl ?_ ?_ ?_ ?_ hbase ?_
    · intro j u hu
      cases j with
      | zero =>
        simp at hu
        rw [Addr.add_lit, cell_of_row _ _ _ _ _ _ h3, ← hu]
        have := congrArg (fun l => l[0]?) h7
        simp only [Nat.one_mul, List.getElem?_take, Array.getElem?_toList] at this
        exact this
      | succ j => simp at hu
    · intro u hu
      simp at hu
      rw [hu]
      rfl
    · unfold maxLen; omega
    · omega
    · intro v' w2 h2 h3' _
      exact h v' w2 (by rw [List.length_append, scells_append]; exact h2) h3'
theorem fgTold_size {f : Fg} (h : fgOk f = true) : (fgTold f).size ≤ maxLen := by
  have := (of_decide_eq_true h).2
  rw [fgTold_yes h, ByteArray.size_append, ByteArray.size_append, txt_size, put3_size]
  unfold maxLen
  simp
  omega
theorem hear9 {f : Fg} {G1 : List ByteArray} (z : World) (h : hearB [p] P 0 f = ⟨[p'], P', G1, 0, 0⟩) (h1 : HoldsI z (.slice a1 1 c1) [p]) (h2 : HoldsG z (.slice a2 P.length c2) P ∧ P.length ≤ 1048576) :
    Calls Try.prog 12 #[.agg #[.slice a1 1 c1, .slice a2 P.length c2], .int .i64 0, fgV f] z fun e q => ∃ b1 b2 d1 d2 ga gc, e = .returned (.agg #[.slice b1 1 d1, .slice b2 P'.length d2, .slice ga G1.length gc, .int .i64 0, .int .i64 0]) ∧ HoldsI q (.slice b1 1 d1) [p'] ∧ HoldsG q (.slice b2 P'.length d2) P' ∧ q.ownsRow z.heap.size 9 1 (.slice ga G1.length gc) G1.length (scells G1) ∧ Below z.heap.size z q := by
  refine (iHearB a1 a2 c1 c2 [p] P 0 f z (by show 1 ≤ 1048576; decide) h2.2 h1 h2.1.f).mono fun e q hh => ?_
  rw [h] at hh
  obtain ⟨lv, pv, gv, rfl, o1, o2, o3, hb⟩ := hh
  obtain ⟨b1, d1, rfl⟩ := own_form o1
  obtain ⟨b2, d2, rfl⟩ := own_form o2
  obtain ⟨ga, gc, rfl⟩ := own_form o3
  exact ⟨b1, b2, d1, d2, ga, gc, rfl, HoldsI.own o1, HoldsG.own o2, o3, hb⟩
theorem Cs.stay {T : TypeId} (h : Cs w q B x1 x2 y1 y2 F p P a1 a2 c1 c2 gv G) (k : Stay T q q') (hb : Below w.heap.size w q') (e1 : 29 ≠ T) (e2 : 2 ≠ T) (e3 : 33 ≠ T) (e4 : 9 ≠ T) : Cs w q' B x1 x2 y1 y2 F p P a1 a2 c1 c2 gv G :=
  ⟨k _ _ _ h.b e1, h.l.stay e2 k, h.r.stay e3 k, h.f1.stay e3 k, h.f2.stay e3 k, own_stay h.g e4 k, hb, h.bB⟩
/-- An answer besides, laid in a variable. -/
structure Hr (w q : World) (B : Nat) (x1 x2 : Option Addr) (y1 y2 : Nat) (F : List Fg) (p : Int) (P : List Fg) (a1 a2 : Option Addr) (c1 c2 : Nat) (gv : Value) (G : List ByteArray) (M bs : Nat) (b1 b2 ga : Option Addr) (d1 d2 gc : Nat) (p' : Int) (P' : List Fg) (G1 : List ByteArray) : Prop where
  e : Cs w q B x1 x2 y1 y2 F p P a1 a2 c1 c2 gv G
  m : q.heap[M]? = some (.cells #[.slice b1 1 d1, .slice b2 P'.length d2, .slice ga G1.length gc, .int .i64 0, .int .i64 0] 37)
  l : HoldsI q (.slice b1 1 d1) [p']
  r : HoldsG q (.slice b2 P'.length d2) P'
  g : q.ownsRow bs 9 1 (.slice ga G1.length gc) G1.length (scells G1)
theorem Hr.put {M bs : Nat} {b1 b2 ga : Option Addr} {d1 d2 gc : Nat} {G1 : List ByteArray} (h : Cs w q B x1 x2 y1 y2 F p P a1 a2 c1 c2 gv G) (hM : q.heap[M]? = some (.cells #[.slice none 0 0, .slice none 0 0, .slice none 0 0, .int .i64 0, .int .i64 0] 37)) (hw : w.heap.size ≤ M) (hl : HoldsI q (.slice b1 1 d1) [p']) (hr : HoldsG q (.slice b2 P'.length d2) P') (hg : q.ownsRow bs 9 1 (.slice ga G1.length gc) G1.length (scells G1)) :
    Hr w (((((q.setCell ⟨M, 0, none⟩ (.slice b1 1 d1)).setCell ⟨M, 1, none⟩ (.slice b2 P'.length d2)).setCell ⟨M, 2, none⟩ (.slice ga G1.length gc)).setCell ⟨M, 3, none⟩ (.int .i64 0)).setCell ⟨M, 4, none⟩ (.int .i64 0)) B x1 x2 y1 y2 F p P a1 a2 c1 c2 gv G M bs b1 b2 ga d1 d2 gc p' P' G1 := by
  have k : Stay 37 q (((((q.setCell ⟨M, 0, none⟩ (.slice b1 1 d1)).setCell ⟨M, 1, none⟩ (.slice b2 P'.length d2)).setCell ⟨M, 2, none⟩ (.slice ga G1.length gc)).setCell ⟨M, 3, none⟩ (.int .i64 0)).setCell ⟨M, 4, none⟩ (.int .i64 0)) := by
    intro g cur S hg hS
    refine (set5_ot ?_ _ _ _ _ _).trans hg
    intro e
    subst e
    rw [hM] at hg
    injection hg with hg
    injection hg with _ hg
    exact hS hg.symm
  exact ⟨h.stay k (set5_bl h.bw hw _ _ _ _ _) (by decide) (by decide) (by decide) (by decide), set5_bo hM _ _ _ _ _, hl.stay (by decide) k, hr.stay (by decide) k, own_stay hg (by decide) k⟩
theorem own_cap {q : World} {base n c sz : Nat} {e : TypeId} {ad : Option Addr} {xs : List Value} (h : q.ownsRow base e sz (.slice ad n c) n xs) : n ≤ c := by
  rcases h.2 with ⟨e1, e2⟩ | ⟨g, cap, cur, e1, _, _, h4, _⟩
  · rw [e2]; exact Nat.zero_le _
  · cases e1
    exact h4
theorem Hr.next {M bs : Nat} {b1 b2 ga : Option Addr} {d1 d2 gc : Nat} {G1 : List ByteArray} (h : Hr w q B x1 x2 y1 y2 F p P a1 a2 c1 c2 gv G M bs b1 b2 ga d1 d2 gc p' P' G1) :
    Cs w ((q.setCell ⟨B, 0, none⟩ (.slice b1 1 d1)).setCell ⟨B, 1, none⟩ (.slice b2 P'.length d2)) B x1 x2 y1 y2 F p' P' b1 b2 d1 d2 gv G ∧
      ((q.setCell ⟨B, 0, none⟩ (.slice b1 1 d1)).setCell ⟨B, 1, none⟩ (.slice b2 P'.length d2)).heap[M]? = some (.cells #[.slice b1 1 d1, .slice b2 P'.length d2, .slice ga G1.length gc, .int .i64 0, .int .i64 0] 37) ∧
      ((q.setCell ⟨B, 0, none⟩ (.slice b1 1 d1)).setCell ⟨B, 1, none⟩ (.slice b2 P'.length d2)).ownsRow bs 9 1 (.slice ga G1.length gc) G1.length (scells G1) := by
  have e1 := heap_setCell_same q B 0 _ _ (.slice b1 1 d1) h.e.b
  have k : Stay 29 q ((q.setCell ⟨B, 0, none⟩ (.slice b1 1 d1)).setCell ⟨B, 1, none⟩ (.slice b2 P'.length d2)) := fun g cur S hg hS => stay_set e1 _ g cur S (stay_set h.e.b _ g cur S hg hS) hS
  exact ⟨h.e.setB h.l h.r, k _ _ _ h.m (by decide), own_stay h.g (by decide) k⟩
/-- What the law has laid behind the loop. -/
def Dx (w : World) (M : Nat) (k : Int) (bx bf : Bool) (tx : ByteArray) (gv : Value) (G : List ByteArray) (z : World) : Prop := z.heap[M]? = some (.cells #[.int .i64 k, .bool bx, .bool bf, .string tx] 33) ∧ HoldsT z gv G ∧ Below w.heap.size w z
theorem Dx.step {M : Nat} {k : Int} {bx bf : Bool} {tx : ByteArray} (h : Dx w M k bx bf tx gv G q) (hb : Below q.heap.size q q') : Dx w M k bx bf tx gv G q' :=
  ⟨(hb.block _ (Array.getElem?_eq_some_iff.1 h.1).1).trans h.1, h.2.1.below hb rfl, h.2.2.trans (hb.mono h.2.2.size)⟩
theorem fld9 (x y : Value) (W : World) : (Instr.field 29 (.agg #[x, y]) 0).run Try.prog W = .ok x W := by kernel_rfl
theorem ctP_zero (F : List Fg) : ctP F 0 = [] := by unfold ctP; split <;> rfl
theorem ctG_zero (t : ByteArray) (F : List Fg) : ctG t F 0 = [] := by unfold ctG; rw [if_neg (by omega)]
set_option linter.unusedSimpArgs false in
set_option maxHeartbeats 64000000 in
set_option maxRecDepth 100000 in
theorem lawCt (w : World) (s1 s2 : Value) (n1 n2 : Nat) (h1 : n1 ≤ maxLen) (h2 : n2 ≤ maxLen) (hD1 : Dat w w.heap.size s1 n1) (hD2 : Dat w w.heap.size s2 n2) (hl1 : n1 ≤ 1048576) (hl2 : n2 ≤ 1048576) :
    Calls Try.prog 3 #[s1, s2] w fun e w' => e = .returned (.bool true) ∧ Below w.heap.size w w' := by
  have T1 : Hid (∀ v, Below w.heap.size w v → Dat v v.heap.size s1 n1) := hide fun v hv => (hD1.below hv).mono hv.size
  have T2 : Hid (∀ v, Below w.heap.size w v → Dat v v.heap.size s2 n2) := hide fun v hv => (hD2.below hv).mono hv.size
  obtain ⟨sa1, cap1, rfl⟩ := hD1.1
  obtain ⟨sa2, cap2, rfl⟩ := hD2.1
  clear hD1 hD2
  have d1 : ¬ ((1048576 : Int) < (n1 : Int)) := by omega
  have d2 : ¬ ((1048576 : Int) < (n2 : Int)) := by omega
  go_enter Try.func3, Try.ntmps3
  go_wp2_with fail
  refine (drawCt w _ n1 h1 (unhide T1 _ (Below.refl _ _))).mono ?_
  rintro e w1 ⟨t, x, sq, rfl, ht, hb1⟩
  have CR := hide (fun i hi => ct_round t x sq i hi)
  have CG := hide (fun i hi => ctG_succ t (cutF t x sq) i hi)
  have CI := hide fun z => iCut t x sq z (by unfold maxLen; omega)
  have CS := hide fun z => sCut t x sq z (by unfold maxLen; omega)
  have H1 := hide hb1
  have ht' : ¬ (t.size > 9223372036854775807) := by omega
  clear hb1
  generalize cutF t x sq = F at *
  go_wp2_with fail
  refine (unhide CI _).mono ?_
  rintro e w2 ⟨u1, rfl, hg1, _, hb2⟩
  obtain ⟨x1, y1, ev⟩ := hg1.form
  subst ev
  have H2 := hide (And.intro hg1 ((unhide H1).trans (hb2.mono (unhide H1).size)))
  clear hg1 hb2 H1 CI
  go_wp2_with fail
  refine (unhide CS _).mono ?_
  rintro e w3 ⟨u2, rfl, hg2, _, hb3⟩
  obtain ⟨x2, y2, ev⟩ := hg2.form
  subst ev
  have H3 := hide (And.intro ((unhide H2).1.below hb3 rfl) (And.intro hg2 ((unhide H2).2.trans (hb3.mono (unhide H2).2.size))))
  clear hg2 hb3 H2 CS
  have CN := hide fun z => iBnew 1 z
  rw [show bnL 1 = [(-1 : Int)] from rfl] at CN
  go_wp2_with fail
  refine (unhide CN _).mono ?_
  rintro e w4 ⟨a1, c1, rfl, hi1, _, hb4⟩
  have H4 := hide (And.intro ((unhide H3).1.below hb4 rfl) (And.intro ((unhide H3).2.1.below hb4 rfl) (And.intro hi1 ((unhide H3).2.2.trans (hb4.mono (unhide H3).2.2.size)))))
  clear hi1 hb4 H3 CN
  go_upto_region 10 with fail
  refine gen_world (fun q => Cs w q w4.heap.size x1 x2 y1 y2 F (-1) [] a1 none c1 0 (.slice (some ⟨w4.heap.size + 1, 0, none⟩) 0 0) []) ?_ ?_
  · obtain ⟨g1, g2, g3, g4⟩ := unhide H4
    obtain ⟨hN0, hN1, hb0, hs0⟩ := new2b w4 (.cells #[.slice a1 1 c1, .slice none 0 0] 29) (.cells #[] 9)
    have hs4 := g4.size
    refine ⟨hN0, g3.below hb0 rfl, holdsG_nil _ _ _, g1.below hb0 rfl, g2.below hb0 rfl, ?_, g4.trans (hb0.mono hs4), hs4⟩
    exact ⟨rfl, Or.inr ⟨w4.heap.size + 1, 0, #[], rfl, by omega, hN1, Nat.le_refl _, Nat.zero_le _, rfl, rfl⟩⟩
  intro q1 hq1
  have HQ := hide hq1
  generalize w4.heap.size + 1 = G0 at *
  generalize w4.heap.size = B at *
  clear hq1 H4
  go_wp2_with fail
  go_loopw [11, 12] (fun gv yy wr => ∃ (i : Nat) (a1 a2 : Option Addr) (c1 c2 : Nat), i ≤ F.length ∧ yy = .int .i64 i ∧ Cs w wr B x1 x2 y1 y2 F (pvC sq i) (ctP F i) a1 a2 c1 c2 gv (ctG t F i)) (fun _ yy _ => F.length - (intOf yy).toNat)
  case atStart =>
    refine ⟨0, a1, none, c1, 0, Nat.zero_le _, rfl, ?_⟩
    rw [ctP_zero, ctG_zero]
    exact unhide HQ
  case round =>
    obtain ⟨i, a1, a2, c1, c2, hin, rfl, hcs⟩ := hrel
    have E0 := hide hcs
    clear hcs HQ
    by_cases hlt : i < F.length
    · have dlt : (i : Int) < (F.length : Int) := by omega
      obtain ⟨hok, h40, hhear⟩ := unhide CR i hlt
      obtain ⟨g1, p1, ev1, hg1, _⟩ := (unhide E0).f1.get9 i hlt
      obtain ⟨g2, p2, ev2, hg2, _⟩ := (unhide E0).f2.get9 i hlt
      cases ev1
      cases ev2
      have hGs := unhide CG i hlt
      have HPl : Hid ((ctP F i).length ≤ 1048576) := hide (by unfold ctP; split; exact Nat.zero_le _; rw [List.length_take]; omega)
      generalize pvC sq i = p at *
      obtain ⟨p', hp'⟩ : ∃ p', pvC sq (i + 1) = p' := ⟨_, rfl⟩
      have HNp := hide hp'
      rw [hp'] at hhear
      clear hp'
      generalize ctP F i = P at *
      obtain ⟨P', hP'⟩ : ∃ P', ctP F (i + 1) = P' := ⟨_, rfl⟩
      have HNP := hide hP'
      rw [hP'] at hhear
      clear hP'
      have HGl : Hid ((ctG t F i).length ≤ 1000) := hide (by unfold ctG; split; exact (by show 1 ≤ 1000; decide); exact Nat.zero_le _)
      generalize ctG t F i = G at *
      obtain ⟨G', hG'⟩ : ∃ G', ctG t F (i + 1) = G' := ⟨_, rfl⟩
      have HNG := hide hG'
      rw [hG'] at hGs
      clear hG'
      obtain ⟨ua, uc, eu⟩ := own_form (unhide E0).g
      subst eu
      have GT : Hid (∀ z, Cs w z B (some ⟨g1, 0, none⟩) (some ⟨g2, 0, none⟩) y1 y2 F p P a1 a2 c1 c2 (.slice ua G.length uc) G → (z.cell? ⟨g1, i * 4, none⟩ = some (.int .i64 F[i].seq) ∧ z.cell? ⟨g1, i * 4 + 1, none⟩ = some (.bool F[i].beg) ∧ z.cell? ⟨g1, i * 4 + 2, none⟩ = some (.bool F[i].fin) ∧ z.cell? ⟨g1, i * 4 + 3, none⟩ = some (.string F[i].text)) ∧ z.cell? ⟨g2, i * 4, none⟩ = some (.int .i64 F[i].seq) ∧ z.cell? ⟨g2, i * 4 + 1, none⟩ = some (.bool F[i].beg) ∧ z.cell? ⟨g2, i * 4 + 2, none⟩ = some (.bool F[i].fin) ∧ z.cell? ⟨g2, i * 4 + 3, none⟩ = some (.string F[i].text)) := hide fun z hz => by
        obtain ⟨m1, r1, v1, _, k1⟩ := hz.f1.get9 i hlt
        obtain ⟨m2, r2, v2, _, k2⟩ := hz.f2.get9 i hlt
        cases v1
        cases v2
        exact ⟨k1, k2⟩
      have CB := hide fun z => iFgBytes F[i] z
      have CD := hide fun z => iFgRead (fgTold F[i]) z (fgTold_size hok)
      rw [fg_round hok] at CD
      obtain ⟨G1, hG1⟩ : ∃ G1, (if i + 1 = F.length then [t] else []) = G1 := ⟨_, rfl⟩
      rw [hG1] at hhear hGs
      have CH := hide fun z h1 h2 => hear9 (a1 := a1) (a2 := a2) (c1 := c1) (c2 := c2) z hhear h1 h2
      generalize fgTold F[i] = T at *
      clear hok hhear
      generalize F[i] = f at *
      obtain ⟨k, bx, bf, tx⟩ := f
      unfold fgV at CB CD CH
      dsimp only at GT CB CD CH
      have SZ : Hid (∀ z, Cs w z B (some ⟨g1, 0, none⟩) (some ⟨g2, 0, none⟩) y1 y2 F p P a1 a2 c1 c2 (.slice ua G.length uc) G → (z.cell? ⟨g1, i * 4, none⟩ = some (.int .i64 k) ∧ z.cell? ⟨g1, i * 4 + 1, none⟩ = some (.bool bx) ∧ z.cell? ⟨g1, i * 4 + 2, none⟩ = some (.bool bf) ∧ z.cell? ⟨g1, i * 4 + 3, none⟩ = some (.string tx) ∧ z.cell? ⟨g2, i * 4, none⟩ = some (.int .i64 k) ∧ z.cell? ⟨g2, i * 4 + 1, none⟩ = some (.bool bx) ∧ z.cell? ⟨g2, i * 4 + 2, none⟩ = some (.bool bf) ∧ z.cell? ⟨g2, i * 4 + 3, none⟩ = some (.string tx))) := hide fun z hz => by
        obtain ⟨⟨k1, k2, k3, k4⟩, m1, m2, m3, m4⟩ := unhide GT z hz
        exact ⟨k1, k2, k3, k4, m1, m2, m3, m4⟩
      have SY : Hid (∀ z, Cs w z B (some ⟨g1, 0, none⟩) (some ⟨g2, 0, none⟩) y1 y2 F p P a1 a2 c1 c2 (.slice ua G.length uc) G → (z.cell? ⟨B, 0, none⟩ = some (.slice a1 1 c1) ∧ z.cell? ⟨B, 1, none⟩ = some (.slice a2 P.length c2) ∧ z.cell? ⟨g1, i * 4, none⟩ = some (.int .i64 k) ∧ z.cell? ⟨g1, i * 4 + 1, none⟩ = some (.bool bx) ∧ z.cell? ⟨g1, i * 4 + 2, none⟩ = some (.bool bf) ∧ z.cell? ⟨g1, i * 4 + 3, none⟩ = some (.string tx))) := hide fun z hz => by
        obtain ⟨⟨k1, k2, k3, k4⟩, _⟩ := unhide GT z hz
        obtain ⟨m1, m2⟩ := row2b hz.b
        exact ⟨m1, m2, k1, k2, k3, k4⟩
      have hneq := neqFg k bx bf tx
      have hgrd := grdFg .neq
      go_upto_region 13 with fail
      go_cut [73] (fun v wx => v = .bool false ∧ Cs w wx B (some ⟨g1, 0, none⟩) (some ⟨g2, 0, none⟩) y1 y2 F p P a1 a2 c1 c2 (.slice ua G.length uc) G)
      case first =>
        have hS0 := unhide SZ _ ((unhide E0).step ((Below.refl _ _).drew))
        refine wp_region_held_drew (S := fun z => z.cell? ⟨g1, i * 4, none⟩ = some (.int .i64 k) ∧ z.cell? ⟨g1, i * 4 + 1, none⟩ = some (.bool bx) ∧ z.cell? ⟨g1, i * 4 + 2, none⟩ = some (.bool bf) ∧ z.cell? ⟨g1, i * 4 + 3, none⟩ = some (.string tx) ∧ z.cell? ⟨g2, i * 4, none⟩ = some (.int .i64 k) ∧ z.cell? ⟨g2, i * 4 + 1, none⟩ = some (.bool bx) ∧ z.cell? ⟨g2, i * 4 + 2, none⟩ = some (.bool bf) ∧ z.cell? ⟨g2, i * 4 + 3, none⟩ = some (.string tx)) (by kernel_rfl) hS0 (fun hHeld => ?_)
        have E1 := hide ((unhide E0).step ((Below.refl _ _).drew))
        generalize wr.drew = yy at hS0 E1 hHeld ⊢
        clear hS0
        refine wpAnyH_take (i := 0) (v := ?va1_0) rfl (by kernel_rfl) (by kernel_rfl) (by kernel_rfl) (fun _ _ _ h => h) (Or.inl ⟨by rfl, ?hya1_0⟩) (by assumption) ?_
        case hya1_0 =>
          intro w hSw
          try dsimp only at hSw
          go_simp
          try with_reducible rfl
        try simp only [Act.put, List.setIfInBounds_toArray, List.set_cons_zero, List.set_cons_succ, List.getElem_toArray, List.getElem_cons_zero]
        refine wpAnyH_take (i := 1) (v := ?va2_1) rfl (by kernel_rfl) (by kernel_rfl) (by kernel_rfl) (fun _ _ _ h => h) (Or.inl ⟨by rfl, ?hya2_1⟩) (by assumption) ?_
        case hya2_1 =>
          intro w hSw
          try dsimp only at hSw
          go_simp
          try with_reducible rfl
        try simp only [Act.put, List.setIfInBounds_toArray, List.set_cons_zero, List.set_cons_succ, List.getElem_toArray, List.getElem_cons_zero, List.getElem_cons_succ]
        refine wpAnyH_take (i := 2) (v := ?va3_2) rfl (by kernel_rfl) (by kernel_rfl) (by kernel_rfl) (fun _ _ _ h => h) (Or.inl ⟨by rfl, ?hya3_2⟩) (by assumption) ?_
        case hya3_2 =>
          intro w hSw
          try dsimp only at hSw
          go_simp
          try with_reducible rfl
        try simp only [Act.put, List.setIfInBounds_toArray, List.set_cons_zero, List.set_cons_succ, List.getElem_toArray, List.getElem_cons_zero, List.getElem_cons_succ]
        refine wpAnyH_take (i := 3) (v := ?va4_3) rfl (by kernel_rfl) (by kernel_rfl) (by kernel_rfl) (fun _ _ _ h => h) (Or.inl ⟨by rfl, ?hya4_3⟩) (by assumption) ?_
        case hya4_3 =>
          intro w hSw
          try dsimp only at hSw
          go_simp
          try with_reducible rfl
        try simp only [Act.put, List.setIfInBounds_toArray, List.set_cons_zero, List.set_cons_succ, List.getElem_toArray, List.getElem_cons_zero, List.getElem_cons_succ]
        refine wpAnyH_take (i := 4) (v := ?va5_4) rfl (by kernel_rfl) (by kernel_rfl) (by kernel_rfl) (fun _ _ _ h => h) (Or.inl ⟨by rfl, ?hya5_4⟩) (by assumption) ?_
        case hya5_4 =>
          intro w hSw
          try dsimp only at hSw
          go_simp
          try with_reducible rfl
        try simp only [Act.put, List.setIfInBounds_toArray, List.set_cons_zero, List.set_cons_succ, List.getElem_toArray, List.getElem_cons_zero, List.getElem_cons_succ]
        refine wpAnyH_take (i := 5) (v := ?va6_5) rfl (by kernel_rfl) (by kernel_rfl) (by kernel_rfl) (fun _ _ _ h => h) (Or.inl ⟨by rfl, ?hya6_5⟩) (by assumption) ?_
        case hya6_5 =>
          intro w hSw
          try dsimp only at hSw
          go_simp
          try with_reducible rfl
        try simp only [Act.put, List.setIfInBounds_toArray, List.set_cons_zero, List.set_cons_succ, List.getElem_toArray, List.getElem_cons_zero, List.getElem_cons_succ]
        refine wpAnyH_take (i := 6) (v := ?va7_6) rfl (by kernel_rfl) (by kernel_rfl) (by kernel_rfl) (fun _ _ _ h => h) (Or.inl ⟨by rfl, ?hya7_6⟩) (by assumption) ?_
        case hya7_6 =>
          intro w hSw
          try dsimp only at hSw
          go_simp
          try with_reducible rfl
        try simp only [Act.put, List.setIfInBounds_toArray, List.set_cons_zero, List.set_cons_succ, List.getElem_toArray, List.getElem_cons_zero, List.getElem_cons_succ]
        refine wpAnyH_take (i := 7) (v := ?va8_7) rfl (by kernel_rfl) (by kernel_rfl) (by kernel_rfl) (fun _ _ _ h => h) (Or.inl ⟨by rfl, ?hya8_7⟩) (by assumption) ?_
        case hya8_7 =>
          intro w hSw
          try dsimp only at hSw
          go_simp
          try with_reducible rfl
        try simp only [Act.put, List.setIfInBounds_toArray, List.set_cons_zero, List.set_cons_succ, List.getElem_toArray, List.getElem_cons_zero, List.getElem_cons_succ]
        refine wpAnyH_take (i := 8) (v := ?va9_8) rfl (by kernel_rfl) (by kernel_rfl) (by kernel_rfl) (fun _ _ _ h => h) (Or.inl ⟨by rfl, ?hya9_8⟩) (by assumption) ?_
        case hya9_8 =>
          intro w hSw
          try dsimp only at hSw
          go_simp
          try with_reducible rfl
        try simp only [Act.put, List.setIfInBounds_toArray, List.set_cons_zero, List.set_cons_succ, List.getElem_toArray, List.getElem_cons_zero, List.getElem_cons_succ]
        refine wpAnyH_take (i := 9) (v := ?va10_9) rfl (by kernel_rfl) (by kernel_rfl) (by kernel_rfl) (fun _ _ _ h => h) (Or.inl ⟨by rfl, ?hya10_9⟩) (by assumption) ?_
        case hya10_9 =>
          intro w hSw
          try dsimp only at hSw
          go_simp
          try with_reducible rfl
        try simp only [Act.put, List.setIfInBounds_toArray, List.set_cons_zero, List.set_cons_succ, List.getElem_toArray, List.getElem_cons_zero, List.getElem_cons_succ]
        refine wpAnyH_take (i := 10) (v := ?va11_10) rfl (by kernel_rfl) (by kernel_rfl) (by kernel_rfl) (fun _ _ _ h => h) (Or.inl ⟨by rfl, ?hya11_10⟩) (by assumption) ?_
        case hya11_10 =>
          intro w hSw
          try dsimp only at hSw
          go_simp
          try with_reducible rfl
        try simp only [Act.put, List.setIfInBounds_toArray, List.set_cons_zero, List.set_cons_succ, List.getElem_toArray, List.getElem_cons_zero, List.getElem_cons_succ]
        refine wpAnyH_take (i := 11) (v := ?va12_11) rfl (by kernel_rfl) (by kernel_rfl) (by kernel_rfl) (fun _ _ _ h => h) (Or.inl ⟨by rfl, ?hya12_11⟩) (by assumption) ?_
        case hya12_11 =>
          intro w hSw
          try dsimp only at hSw
          go_simp
          try with_reducible rfl
        try simp only [Act.put, List.setIfInBounds_toArray, List.set_cons_zero, List.set_cons_succ, List.getElem_toArray, List.getElem_cons_zero, List.getElem_cons_succ]
        refine wpAnyH_take (i := 12) (v := ?va13_12) rfl (by kernel_rfl) (by kernel_rfl) (by kernel_rfl) (fun _ _ _ h => h) (Or.inl ⟨by rfl, ?hya13_12⟩) (by assumption) ?_
        case hya13_12 =>
          intro w hSw
          try dsimp only at hSw
          go_simp
          try with_reducible rfl
        try simp only [Act.put, List.setIfInBounds_toArray, List.set_cons_zero, List.set_cons_succ, List.getElem_toArray, List.getElem_cons_zero, List.getElem_cons_succ]
        refine wpAnyH_take (i := 13) (v := ?va14_13) rfl (by kernel_rfl) (by kernel_rfl) (by kernel_rfl) (fun _ _ _ h => h) (Or.inl ⟨by rfl, ?hya14_13⟩) (by assumption) ?_
        case hya14_13 =>
          intro w hSw
          try dsimp only at hSw
          go_simp
          try with_reducible rfl
        try simp only [Act.put, List.setIfInBounds_toArray, List.set_cons_zero, List.set_cons_succ, List.getElem_toArray, List.getElem_cons_zero, List.getElem_cons_succ]
        refine wpAnyH_take (i := 16) (v := ?va15_16) rfl (by kernel_rfl) (by kernel_rfl) (by kernel_rfl) (fun _ _ _ h => h) (Or.inl ⟨by rfl, ?hya15_16⟩) (by assumption) ?_
        case hya15_16 =>
          intro w hSw
          try dsimp only at hSw
          go_simp
          try with_reducible rfl
        try simp only [Act.put, List.setIfInBounds_toArray, List.set_cons_zero, List.set_cons_succ, List.getElem_toArray, List.getElem_cons_zero, List.getElem_cons_succ]
        refine wpAnyH_take (i := 17) (v := ?va16_17) rfl (by kernel_rfl) (by kernel_rfl) (by kernel_rfl) (fun _ _ _ h => h) (Or.inl ⟨by rfl, ?hya16_17⟩) (by assumption) ?_
        case hya16_17 =>
          intro w hSw
          try dsimp only at hSw
          go_simp
          try with_reducible rfl
        try simp only [Act.put, List.setIfInBounds_toArray, List.set_cons_zero, List.set_cons_succ, List.getElem_toArray, List.getElem_cons_zero, List.getElem_cons_succ]
        refine wpAnyH_take (i := 18) (v := ?va17_18) rfl (by kernel_rfl) (by kernel_rfl) (by kernel_rfl) (fun _ _ _ h => h) (Or.inl ⟨by rfl, ?hya17_18⟩) (by assumption) ?_
        case hya17_18 =>
          intro w hSw
          try dsimp only at hSw
          go_simp
          try with_reducible rfl
        try simp only [Act.put, List.setIfInBounds_toArray, List.set_cons_zero, List.set_cons_succ, List.getElem_toArray, List.getElem_cons_zero, List.getElem_cons_succ]
        refine wpAnyH_take (i := 19) (v := ?va18_19) rfl (by kernel_rfl) (by kernel_rfl) (by kernel_rfl) (fun _ _ _ h => h) (Or.inl ⟨by rfl, ?hya18_19⟩) (by assumption) ?_
        case hya18_19 =>
          intro w hSw
          try dsimp only at hSw
          go_simp
          try with_reducible rfl
        try simp only [Act.put, List.setIfInBounds_toArray, List.set_cons_zero, List.set_cons_succ, List.getElem_toArray, List.getElem_cons_zero, List.getElem_cons_succ]
        refine wpAnyH_ready (rs := [14]) (by kernel_rfl) (by simp) ?_
        refine AllReadyH.cons rfl (fun K hK => ?_) (AllReadyH.nil)
        go_simp
        refine (unhide CB _).mono ?_
        rintro e z11 ⟨rfl, hb11⟩
        have E11 := hide ((unhide E1).step hb11)
        clear hb11
        go_wp2_with fail
        refine hK.out _ _ (unhide SZ _ (unhide E11)) (fun _ => ?_)
        clear hK K
        try simp only [Act.put, List.setIfInBounds_toArray, List.set_cons_zero, List.set_cons_succ, List.getElem_toArray, List.getElem_cons_zero, List.getElem_cons_succ]
        refine wpAnyH_ready (rs := [15]) (by kernel_rfl) (by simp) ?_
        refine AllReadyH.cons rfl (fun K hK => ?_) (AllReadyH.nil)
        go_simp
        refine (unhide CD _).mono ?_
        rintro e z12 ⟨rfl, hb12⟩
        have E12 := hide ((unhide E11).step hb12)
        clear hb12
        go_wp2_with fail
        refine hK.out _ _ (unhide SZ _ (unhide E12)) (fun _ => ?_)
        clear hK K
        try simp only [Act.put, List.setIfInBounds_toArray, List.set_cons_zero, List.set_cons_succ, List.getElem_toArray, List.getElem_cons_zero, List.getElem_cons_succ]
        refine wpAnyH_take (i := 20) (v := ?va19_20) rfl (by kernel_rfl) (by kernel_rfl) (by kernel_rfl) (fun _ _ _ h => h) (Or.inl ⟨by rfl, ?hya19_20⟩) (by assumption) ?_
        case hya19_20 =>
          intro w hSw
          try dsimp only at hSw
          go_simp
          try with_reducible rfl
        try simp only [Act.put, List.setIfInBounds_toArray, List.set_cons_zero, List.set_cons_succ, List.getElem_toArray, List.getElem_cons_zero, List.getElem_cons_succ]
        refine wpAnyH_take (i := 21) (v := ?va20_21) rfl (by kernel_rfl) (by kernel_rfl) (by kernel_rfl) (fun _ _ _ h => h) (Or.inl ⟨by rfl, ?hya20_21⟩) (by assumption) ?_
        case hya20_21 =>
          intro w hSw
          try dsimp only at hSw
          go_simp
          try with_reducible rfl
        try simp only [Act.put, List.setIfInBounds_toArray, List.set_cons_zero, List.set_cons_succ, List.getElem_toArray, List.getElem_cons_zero, List.getElem_cons_succ]
        refine wpAnyH_done (by kernel_rfl) ?_ _
        go_wp2_with fail
        go_meet
        exact ⟨rfl, unhide E12⟩
      case rest =>
        obtain ⟨hv, hF⟩ := hcut
        subst hv
        have E2 := hide hF
        clear hF E0
        go_upto_region 15 with fail
        go_cut [13] (fun v wx => ∃ M bs b1 b2 ga d1 d2 gc, v = .pointer (some ⟨M, 0, none⟩) ∧ Hr w wx B (some ⟨g1, 0, none⟩) (some ⟨g2, 0, none⟩) y1 y2 F p P a1 a2 c1 c2 (.slice ua G.length uc) G M bs b1 b2 ga d1 d2 gc p' P' G1)
        case first =>
          have E3 := hide ((unhide E2).step ((Below.refl _ _).drew))
          refine wp_region_held_drew (S := fun z => z.cell? ⟨B, 0, none⟩ = some (.slice a1 1 c1) ∧ z.cell? ⟨B, 1, none⟩ = some (.slice a2 P.length c2) ∧ z.cell? ⟨g1, i * 4, none⟩ = some (.int .i64 k) ∧ z.cell? ⟨g1, i * 4 + 1, none⟩ = some (.bool bx) ∧ z.cell? ⟨g1, i * 4 + 2, none⟩ = some (.bool bf) ∧ z.cell? ⟨g1, i * 4 + 3, none⟩ = some (.string tx)) (by kernel_rfl) (unhide SY _ (unhide E3)) (fun hHeld => ?_)
          generalize wc.drew = yy at E3 hHeld ⊢
          refine wpAnyH_take (i := 0) (v := ?vb1_0) rfl (by kernel_rfl) (by kernel_rfl) (by kernel_rfl) (fun _ _ _ h => h) (Or.inl ⟨by rfl, ?hyb1_0⟩) (by assumption) ?_
          case hyb1_0 =>
            intro w hSw
            try dsimp only at hSw
            go_simp
            try with_reducible rfl
          try simp only [Act.put, List.setIfInBounds_toArray, List.set_cons_zero, List.set_cons_succ, List.getElem_toArray, List.getElem_cons_zero]
          refine wpAnyH_take (i := 1) (v := ?vb2_1) rfl (by kernel_rfl) (by kernel_rfl) (by kernel_rfl) (fun _ _ _ h => h) (Or.inl ⟨by rfl, ?hyb2_1⟩) (by assumption) ?_
          case hyb2_1 =>
            intro w hSw
            try dsimp only at hSw
            go_simp
            try with_reducible rfl
          try simp only [Act.put, List.setIfInBounds_toArray, List.set_cons_zero, List.set_cons_succ, List.getElem_toArray, List.getElem_cons_zero, List.getElem_cons_succ]
          refine wpAnyH_take (i := 2) (v := ?vb3_2) rfl (by kernel_rfl) (by kernel_rfl) (by kernel_rfl) (fun _ _ _ h => h) (Or.inl ⟨by rfl, ?hyb3_2⟩) (by assumption) ?_
          case hyb3_2 =>
            intro w hSw
            try dsimp only at hSw
            go_simp
            try with_reducible rfl
          try simp only [Act.put, List.setIfInBounds_toArray, List.set_cons_zero, List.set_cons_succ, List.getElem_toArray, List.getElem_cons_zero, List.getElem_cons_succ]
          refine wpAnyH_take (i := 3) (v := ?vb4_3) rfl (by kernel_rfl) (by kernel_rfl) (by kernel_rfl) (fun _ _ _ h => h) (Or.inl ⟨by rfl, ?hyb4_3⟩) (by assumption) ?_
          case hyb4_3 =>
            intro w hSw
            try dsimp only at hSw
            go_simp
            try with_reducible rfl
          try simp only [Act.put, List.setIfInBounds_toArray, List.set_cons_zero, List.set_cons_succ, List.getElem_toArray, List.getElem_cons_zero, List.getElem_cons_succ]
          refine wpAnyH_take (i := 4) (v := ?vb5_4) rfl (by kernel_rfl) (by kernel_rfl) (by kernel_rfl) (fun _ _ _ h => h) (Or.inl ⟨by rfl, ?hyb5_4⟩) (by assumption) ?_
          case hyb5_4 =>
            intro w hSw
            try dsimp only at hSw
            go_simp
            try with_reducible rfl
          try simp only [Act.put, List.setIfInBounds_toArray, List.set_cons_zero, List.set_cons_succ, List.getElem_toArray, List.getElem_cons_zero, List.getElem_cons_succ]
          refine wpAnyH_ready (rs := [5, 6]) (by kernel_rfl) (by simp) ?_
          refine AllReadyH.cons rfl (fun K hK => ?_) (AllReadyH.cons rfl (fun K hK => ?_) (AllReadyH.nil))
          · go_simp
            refine (unhide CH _ (unhide E3).l ⟨(unhide E3).r, unhide HPl⟩).mono ?_
            rintro e z31 ⟨b1, b2, d1, d2, ga, gc, rfl, hl31, hr31, ho31, hb31⟩
            have E31 := hide ((unhide E3).step hb31)
            have A31 := hide (And.intro hl31 (And.intro hr31 ho31))
            clear hb31 hl31 hr31 ho31
            go_wp2_with fail
            refine hK.out _ _ (unhide SY _ (unhide E31)) (fun _ => ?_)
            clear hK K
            try simp only [Act.put, List.setIfInBounds_toArray, List.set_cons_zero, List.set_cons_succ, List.getElem_toArray, List.getElem_cons_zero, List.getElem_cons_succ]
            refine wpAnyH_ready (rs := [6]) (by kernel_rfl) (by simp) ?_
            refine AllReadyH.cons rfl (fun K hK => ?_) (AllReadyH.nil)
            have hb32 : Below z31.heap.size z31 (z31.alloc (.cells #[.slice none 0 0, .slice none 0 0, .slice none 0 0, .int .i64 0, .int .i64 0] 37)) := (Below.refl _ _).alloc (Nat.le_refl _) _
            have E32 := hide ((unhide E31).step hb32)
            have M32 := hide (heap_alloc_new z31 (.cells #[.slice none 0 0, .slice none 0 0, .slice none 0 0, .int .i64 0, .int .i64 0] 37))
            have L32 := hide ((unhide E31).bw.size)
            have A32 := hide (And.intro ((unhide A31).1.below hb32 rfl) (And.intro ((unhide A31).2.1.below hb32 rfl) (own_lo9 (unhide A31).2.2 hb32)))
            clear hb32
            go_simp
            refine hK.out _ _ (unhide SY _ (unhide E32)) (fun _ => ?_)
            clear hK K
            try simp only [Act.put, List.setIfInBounds_toArray, List.set_cons_zero, List.set_cons_succ, List.getElem_toArray, List.getElem_cons_zero, List.getElem_cons_succ]
            generalize z31.heap.size = N32 at A32 M32 L32 ⊢
            generalize (z31.alloc (.cells #[.slice none 0 0, .slice none 0 0, .slice none 0 0, .int .i64 0, .int .i64 0] 37)) = q32 at E32 A32 M32 ⊢
            have hS32 := unhide SY _ (unhide E32)
            refine wpAnyH_ready (rs := [7]) (by kernel_rfl) (by simp) ?_
            refine AllReadyH.cons rfl (fun K hK => ?_) (AllReadyH.nil)
            obtain ⟨r0, r1, r2, r3, r4⟩ := row5b (unhide M32)
            have f0 := frz (unhide M32) 0
            have f1 := frz (unhide M32) 1
            have f2 := frz (unhide M32) 2
            have f3 := frz (unhide M32) 3
            have f4 := frz (unhide M32) 4
            have ZF := hide (Hr.put (unhide E32) (unhide M32) (unhide L32) (unhide A32).1 (unhide A32).2.1 (unhide A32).2.2)
            go_simp
            clear r0 r1 r2 r3 r4 f0 f1 f2 f3 f4
            refine hK.out _ _ (unhide SY _ (unhide ZF).e) (fun _ => ?_)
            clear hK K
            try simp only [Act.put, List.setIfInBounds_toArray, List.set_cons_zero, List.set_cons_succ, List.getElem_toArray, List.getElem_cons_zero, List.getElem_cons_succ]
            refine wpAnyH_done (by kernel_rfl) ?_ _
            go_wp2_with fail
            go_meet
            exact ⟨_, _, b1, b2, ga, d1, d2, gc, rfl, unhide ZF⟩
          · have hb31 : Below yy.heap.size yy (yy.alloc (.cells #[.slice none 0 0, .slice none 0 0, .slice none 0 0, .int .i64 0, .int .i64 0] 37)) := (Below.refl _ _).alloc (Nat.le_refl _) _
            have E31 := hide ((unhide E3).step hb31)
            have M31 := hide (heap_alloc_new yy (.cells #[.slice none 0 0, .slice none 0 0, .slice none 0 0, .int .i64 0, .int .i64 0] 37))
            have L31 := hide ((unhide E3).bw.size)
            clear hb31
            go_simp
            refine hK.out _ _ (unhide SY _ (unhide E31)) (fun _ => ?_)
            clear hK K
            try simp only [Act.put, List.setIfInBounds_toArray, List.set_cons_zero, List.set_cons_succ, List.getElem_toArray, List.getElem_cons_zero, List.getElem_cons_succ]
            generalize yy.heap.size = N31 at M31 L31 ⊢
            generalize (yy.alloc (.cells #[.slice none 0 0, .slice none 0 0, .slice none 0 0, .int .i64 0, .int .i64 0] 37)) = q31 at E31 M31 ⊢
            have hS31 := unhide SY _ (unhide E31)
            refine wpAnyH_ready (rs := [5]) (by kernel_rfl) (by simp) ?_
            refine AllReadyH.cons rfl (fun K hK => ?_) (AllReadyH.nil)
            go_simp
            refine (unhide CH _ (unhide E31).l ⟨(unhide E31).r, unhide HPl⟩).mono ?_
            rintro e z32 ⟨b1, b2, d1, d2, ga, gc, rfl, hl32, hr32, ho32, hb32⟩
            have E32 := hide ((unhide E31).step hb32)
            have A32 := hide (And.intro hl32 (And.intro hr32 ho32))
            have M32 := hide ((hb32.block _ (Array.getElem?_eq_some_iff.1 (unhide M31)).1).trans (unhide M31))
            clear hb32 hl32 hr32 ho32
            go_wp2_with fail
            refine hK.out _ _ (unhide SY _ (unhide E32)) (fun _ => ?_)
            clear hK K
            try simp only [Act.put, List.setIfInBounds_toArray, List.set_cons_zero, List.set_cons_succ, List.getElem_toArray, List.getElem_cons_zero, List.getElem_cons_succ]
            refine wpAnyH_ready (rs := [7]) (by kernel_rfl) (by simp) ?_
            refine AllReadyH.cons rfl (fun K hK => ?_) (AllReadyH.nil)
            obtain ⟨r0, r1, r2, r3, r4⟩ := row5b (unhide M32)
            have f0 := frz (unhide M32) 0
            have f1 := frz (unhide M32) 1
            have f2 := frz (unhide M32) 2
            have f3 := frz (unhide M32) 3
            have f4 := frz (unhide M32) 4
            have ZF := hide (Hr.put (unhide E32) (unhide M32) (unhide L31) (unhide A32).1 (unhide A32).2.1 (unhide A32).2.2)
            go_simp
            clear r0 r1 r2 r3 r4 f0 f1 f2 f3 f4
            refine hK.out _ _ (unhide SY _ (unhide ZF).e) (fun _ => ?_)
            clear hK K
            try simp only [Act.put, List.setIfInBounds_toArray, List.set_cons_zero, List.set_cons_succ, List.getElem_toArray, List.getElem_cons_zero, List.getElem_cons_succ]
            refine wpAnyH_done (by kernel_rfl) ?_ _
            go_wp2_with fail
            go_meet
            exact ⟨_, _, b1, b2, ga, d1, d2, gc, rfl, unhide ZF⟩
        case rest =>
          obtain ⟨M, bs, b1, b2, ga, d1, d2, gc, hv, hF⟩ := hcut
          subst hv
          have E4 := hide hF
          clear hF E2
          obtain ⟨r0, r1, r2, r3, r4⟩ := row5b (unhide E4).m
          obtain ⟨m0, m1⟩ := row2b (unhide E4).e.b
          have f0 := frz (unhide E4).e.b 0
          have f1 := frz (unhide E4).e.b 1
          go_upto_region 19 with fail
          refine gen_world (fun q => Cs w q B (some ⟨g1, 0, none⟩) (some ⟨g2, 0, none⟩) y1 y2 F p' P' b1 b2 d1 d2 (.slice ua G.length uc) G ∧ q.heap[M]? = some (.cells #[.slice b1 1 d1, .slice b2 P'.length d2, .slice ga G1.length gc, .int .i64 0, .int .i64 0] 37) ∧ q.ownsRow bs 9 1 (.slice ga G1.length gc) G1.length (scells G1)) (unhide E4).next ?_
          clear r0 r1 r2 r3 r4 m0 m1 f0 f1 E4
          intro q5 hq5
          have r2 := (row5b hq5.2.1).2.2.1
          have E5 := hide hq5
          clear hq5 GT CB CD CH SZ SY hneq hgrd
          have hcp := own_cap (unhide E5).1.g
          have hsz5 := (unhide E5).1.bw.size
          have hG40 : Hid (G.length ≤ 1000) := hide (unhide HGl)
          by_cases eL : i + 1 = F.length
          · rw [if_pos eL] at hG1
            subst hG1
            go_wp2_with (first
              | (at_builtin; refine append_one9 rfl _ _ rfl w.heap.size bs (.slice ua G.length uc) G t ga gc rfl rfl (unhide E5).1.g (unhide E5).2.2 (unhide hG40) hsz5 ?_; rintro v' w6 ho6 hg6; have E6 := hide ((unhide E5).1.app hg6 ho6); clear ho6 hg6))
            go_roundw
            case rel =>
              refine ⟨i + 1, b1, b2, d1, d2, by omega, by go_num, ?_⟩
              rw [unhide HNp, unhide HNP, unhide HNG, hGs]
              exact unhide E6
            case measure => simp [intOf]; omega
          · rw [if_neg eL] at hG1
            subst hG1
            go_wp2_with (first
              | (at_builtin; refine append_none9 rfl _ _ rfl ua ga G.length uc gc rfl rfl hcp ?_))
            go_roundw
            case rel =>
              refine ⟨i + 1, b1, b2, d1, d2, by omega, by go_num, ?_⟩
              rw [unhide HNp, unhide HNP, unhide HNG, hGs, List.append_nil]
              exact (unhide E5).1
            case measure => simp [intOf]; omega


    · have dlt : ¬ ((i : Int) < (F.length : Int)) := by omega
      have E6 := hide (And.intro (HoldsT.own (unhide E0).g) (unhide E0).bw)
      have HGe : Hid (0 < F.length → ctG t F i = [t]) := hide (fun h => by unfold ctG; rw [if_pos (by omega)])
      clear E0 CR CG
      generalize ctG t F i = G at *
      go_wp2_with fail
      refine (drawFb _ _ n2 h2 (unhide T2 _ (unhide E6).2)).mono ?_
      rintro e w5 ⟨f, rfl, hft, hb5⟩
      have CB1 := hide fun z => iFgBytes f z
      have CB2 := hide fun z => sFgBytes f z
      generalize fgTold f = TT at *
      obtain ⟨k, bx, bf, tx⟩ := f
      unfold fgV at CB1 CB2 ⊢
      dsimp only at CB1 CB2 ⊢
      have E7 := hide (And.intro ((unhide E6).1.below hb5 rfl) ((unhide E6).2.trans (hb5.mono (unhide E6).2.size)))
      clear hb5 E6
      go_upto_region 21 with fail
      refine gen_world (fun q => Dx w w5.heap.size k bx bf tx u11 G q) ?_ ?_
      · have hbA := (Below.refl w5.heap.size w5).alloc (Nat.le_refl _) (.cells #[.int .i64 k, .bool bx, .bool bf, .string tx] 33)
        exact ⟨heap_alloc_new w5 _, (unhide E7).1.below hbA rfl, (unhide E7).2.trans (hbA.mono (unhide E7).2.size)⟩
      intro q6 hq6
      have E8 := hide hq6
      generalize w5.heap.size = Mf at *
      clear hq6 E7
      go_wp2_with fail
      refine (drawFr9 _ _ n2 h2 (unhide T2 _ (unhide E8).2.2)).mono ?_
      rintro e w6 ⟨us, rfl, hus, hb6⟩
      have CF1 := hide fun z => iFgRead us z (by unfold maxLen; omega)
      have CF2 := hide fun z => sFgRead us z (by unfold maxLen; omega)
      generalize fgRead us = o at *
      obtain ⟨ok, ox, oy, ot⟩ := o
      unfold fgV at CF1 CF2
      dsimp only at CF1 CF2
      have hus' : ¬ (us.size > 9223372036854775807) := by omega
      have E81 := hide ((unhide E8).step hb6)
      clear hb6 E8
      go_wp2_with fail
      refine (drawBn _ _ n1 h1 (unhide T1 _ (unhide E81).2.2)).mono ?_
      rintro e w7 ⟨nb, rfl, hb7⟩
      have CN1 := hide fun z => iBnew nb z
      have CN2 := hide fun z => sBnew nb z
      have E82 := hide ((unhide E81).step hb7)
      clear hb7 E81
      have hneq := neqFg ok ox oy ot
      have hfld := fld9
      have hgrd := grdFg .neq
      have SX : Hid (∀ z, Dx w Mf k bx bf tx u11 G z → (z.cell? ⟨Mf, 0, none⟩ = some (.int .i64 k) ∧ z.cell? ⟨Mf, 1, none⟩ = some (.bool bx) ∧ z.cell? ⟨Mf, 2, none⟩ = some (.bool bf) ∧ z.cell? ⟨Mf, 3, none⟩ = some (.string tx))) := hide fun z hz => row4g hz.1
      go_upto_region 23 with fail
      go_cut [122] (fun v wx => v = .bool false ∧ HoldsT wx u11 G ∧ Below w.heap.size w wx)
      case first =>
        have E9 := hide ((unhide E82).step ((Below.refl _ _).drew))
        refine wp_region_held_drew (S := fun z => z.cell? ⟨Mf, 0, none⟩ = some (.int .i64 k) ∧ z.cell? ⟨Mf, 1, none⟩ = some (.bool bx) ∧ z.cell? ⟨Mf, 2, none⟩ = some (.bool bf) ∧ z.cell? ⟨Mf, 3, none⟩ = some (.string tx)) (by kernel_rfl) (unhide SX _ (unhide E9)) (fun hHeld => ?_)
        generalize w7.drew = yy at E9 hHeld ⊢
        refine wpAnyH_take (i := 0) (v := ?vc1_0) rfl (by kernel_rfl) (by kernel_rfl) (by kernel_rfl) (fun _ _ _ h => h) (Or.inl ⟨by rfl, ?hyc1_0⟩) (by assumption) ?_
        case hyc1_0 =>
          intro w hSw
          try dsimp only at hSw
          go_simp
          try with_reducible rfl
        try simp only [Act.put, List.setIfInBounds_toArray, List.set_cons_zero, List.set_cons_succ, List.getElem_toArray, List.getElem_cons_zero]
        refine wpAnyH_take (i := 2) (v := ?vc2_2) rfl (by kernel_rfl) (by kernel_rfl) (by kernel_rfl) (fun _ _ _ h => h) (Or.inl ⟨by rfl, ?hyc2_2⟩) (by assumption) ?_
        case hyc2_2 =>
          intro w hSw
          try dsimp only at hSw
          go_simp
          try with_reducible rfl
        try simp only [Act.put, List.setIfInBounds_toArray, List.set_cons_zero, List.set_cons_succ, List.getElem_toArray, List.getElem_cons_zero, List.getElem_cons_succ]
        refine wpAnyH_ready (rs := [1]) (by kernel_rfl) (by simp) ?_
        refine AllReadyH.cons rfl (fun K hK => ?_) (AllReadyH.nil)
        go_simp
        refine (unhide CB1 _).mono ?_
        rintro e z51 ⟨rfl, hb51⟩
        have E51 := hide ((unhide E9).step hb51)
        clear hb51
        go_wp2_with fail
        refine hK.out _ _ (unhide SX _ (unhide E51)) (fun _ => ?_)
        clear hK K
        try simp only [Act.put, List.setIfInBounds_toArray, List.set_cons_zero, List.set_cons_succ, List.getElem_toArray, List.getElem_cons_zero, List.getElem_cons_succ]
        refine wpAnyH_ready (rs := [3]) (by kernel_rfl) (by simp) ?_
        refine AllReadyH.cons rfl (fun K hK => ?_) (AllReadyH.nil)
        go_simp
        refine (unhide CB2 _).mono ?_
        rintro e z52 ⟨rfl, hb52⟩
        have E52 := hide ((unhide E51).step hb52)
        clear hb52
        go_wp2_with fail
        refine hK.out _ _ (unhide SX _ (unhide E52)) (fun _ => ?_)
        clear hK K
        try simp only [Act.put, List.setIfInBounds_toArray, List.set_cons_zero, List.set_cons_succ, List.getElem_toArray, List.getElem_cons_zero, List.getElem_cons_succ]
        refine wpAnyH_take (i := 4) (v := ?vc3_4) rfl (by kernel_rfl) (by kernel_rfl) (by kernel_rfl) (fun _ _ _ h => h) (Or.inl ⟨by rfl, ?hyc3_4⟩) (by assumption) ?_
        case hyc3_4 =>
          intro w hSw
          try dsimp only at hSw
          go_simp
          try with_reducible rfl
        try simp only [Act.put, List.setIfInBounds_toArray, List.set_cons_zero, List.set_cons_succ, List.getElem_toArray, List.getElem_cons_zero, List.getElem_cons_succ]
        refine wpAnyH_take (i := 5) (v := ?vc4_5) rfl (by kernel_rfl) (by kernel_rfl) (by kernel_rfl) (fun _ _ _ h => h) (Or.inl ⟨by rfl, ?hyc4_5⟩) (by assumption) ?_
        case hyc4_5 =>
          intro w hSw
          try dsimp only at hSw
          go_simp
          try with_reducible rfl
        try simp only [Act.put, List.setIfInBounds_toArray, List.set_cons_zero, List.set_cons_succ, List.getElem_toArray, List.getElem_cons_zero, List.getElem_cons_succ]
        refine wpAnyH_take (i := 6) (v := ?vc5_6) rfl (by kernel_rfl) (by kernel_rfl) (by kernel_rfl) (fun _ _ _ h => h) (Or.inl ⟨by rfl, ?hyc5_6⟩) (by assumption) ?_
        case hyc5_6 =>
          intro w hSw
          try dsimp only at hSw
          go_simp
          try with_reducible rfl
        try simp only [Act.put, List.setIfInBounds_toArray, List.set_cons_zero, List.set_cons_succ, List.getElem_toArray, List.getElem_cons_zero, List.getElem_cons_succ]
        refine wpAnyH_take (i := 8) (v := ?vc6_8) rfl (by kernel_rfl) (by kernel_rfl) (by kernel_rfl) (fun _ _ _ h => h) (Or.inl ⟨by rfl, ?hyc6_8⟩) (by assumption) ?_
        case hyc6_8 =>
          intro w hSw
          try dsimp only at hSw
          go_simp
          try with_reducible rfl
        try simp only [Act.put, List.setIfInBounds_toArray, List.set_cons_zero, List.set_cons_succ, List.getElem_toArray, List.getElem_cons_zero, List.getElem_cons_succ]
        refine wpAnyH_ready (rs := [7]) (by kernel_rfl) (by simp) ?_
        refine AllReadyH.cons rfl (fun K hK => ?_) (AllReadyH.nil)
        go_simp
        refine (unhide CF1 _).mono ?_
        rintro e z53 ⟨rfl, hb53⟩
        have E53 := hide ((unhide E52).step hb53)
        clear hb53
        go_wp2_with fail
        refine hK.out _ _ (unhide SX _ (unhide E53)) (fun _ => ?_)
        clear hK K
        try simp only [Act.put, List.setIfInBounds_toArray, List.set_cons_zero, List.set_cons_succ, List.getElem_toArray, List.getElem_cons_zero, List.getElem_cons_succ]
        refine wpAnyH_ready (rs := [9]) (by kernel_rfl) (by simp) ?_
        refine AllReadyH.cons rfl (fun K hK => ?_) (AllReadyH.nil)
        go_simp
        refine (unhide CF2 _).mono ?_
        rintro e z54 ⟨rfl, hb54⟩
        have E54 := hide ((unhide E53).step hb54)
        clear hb54
        go_wp2_with fail
        refine hK.out _ _ (unhide SX _ (unhide E54)) (fun _ => ?_)
        clear hK K
        try simp only [Act.put, List.setIfInBounds_toArray, List.set_cons_zero, List.set_cons_succ, List.getElem_toArray, List.getElem_cons_zero, List.getElem_cons_succ]
        refine wpAnyH_take (i := 10) (v := ?vc7_10) rfl (by kernel_rfl) (by kernel_rfl) (by kernel_rfl) (fun _ _ _ h => h) (Or.inl ⟨by rfl, ?hyc7_10⟩) (by assumption) ?_
        case hyc7_10 =>
          intro w hSw
          try dsimp only at hSw
          go_simp
          try with_reducible rfl
        try simp only [Act.put, List.setIfInBounds_toArray, List.set_cons_zero, List.set_cons_succ, List.getElem_toArray, List.getElem_cons_zero, List.getElem_cons_succ]
        refine wpAnyH_take (i := 11) (v := ?vc8_11) rfl (by kernel_rfl) (by kernel_rfl) (by kernel_rfl) (fun _ _ _ h => h) (Or.inl ⟨by rfl, ?hyc8_11⟩) (by assumption) ?_
        case hyc8_11 =>
          intro w hSw
          try dsimp only at hSw
          go_simp
          try with_reducible rfl
        try simp only [Act.put, List.setIfInBounds_toArray, List.set_cons_zero, List.set_cons_succ, List.getElem_toArray, List.getElem_cons_zero, List.getElem_cons_succ]
        refine wpAnyH_take (i := 12) (v := ?vc9_12) rfl (by kernel_rfl) (by kernel_rfl) (by kernel_rfl) (fun _ _ _ h => h) (Or.inl ⟨by rfl, ?hyc9_12⟩) (by assumption) ?_
        case hyc9_12 =>
          intro w hSw
          try dsimp only at hSw
          go_simp
          try with_reducible rfl
        try simp only [Act.put, List.setIfInBounds_toArray, List.set_cons_zero, List.set_cons_succ, List.getElem_toArray, List.getElem_cons_zero, List.getElem_cons_succ]
        refine wpAnyH_take (i := 13) (v := ?vc10_13) rfl (by kernel_rfl) (by kernel_rfl) (by kernel_rfl) (fun _ _ _ h => h) (Or.inl ⟨by rfl, ?hyc10_13⟩) (by assumption) ?_
        case hyc10_13 =>
          intro w hSw
          try dsimp only at hSw
          go_simp
          try with_reducible rfl
        try simp only [Act.put, List.setIfInBounds_toArray, List.set_cons_zero, List.set_cons_succ, List.getElem_toArray, List.getElem_cons_zero, List.getElem_cons_succ]
        refine wpAnyH_take (i := 17) (v := ?vc11_17) rfl (by kernel_rfl) (by kernel_rfl) (by kernel_rfl) (fun _ _ _ h => h) (Or.inl ⟨by rfl, ?hyc11_17⟩) (by assumption) ?_
        case hyc11_17 =>
          intro w hSw
          try dsimp only at hSw
          go_simp
          try with_reducible rfl
        try simp only [Act.put, List.setIfInBounds_toArray, List.set_cons_zero, List.set_cons_succ, List.getElem_toArray, List.getElem_cons_zero, List.getElem_cons_succ]
        refine wpAnyH_ready (rs := [14]) (by kernel_rfl) (by simp) ?_
        refine AllReadyH.cons rfl (fun K hK => ?_) (AllReadyH.nil)
        go_simp
        refine (unhide CN1 _).mono ?_
        rintro e z55 ⟨n55a, n55b, rfl, _, _, hb55⟩
        have E55 := hide ((unhide E54).step hb55)
        clear hb55
        go_wp2_with fail
        refine hK.out _ _ (unhide SX _ (unhide E55)) (fun _ => ?_)
        clear hK K
        try simp only [Act.put, List.setIfInBounds_toArray, List.set_cons_zero, List.set_cons_succ, List.getElem_toArray, List.getElem_cons_zero, List.getElem_cons_succ]
        refine wpAnyH_take (i := 15) (v := ?vc12_15) rfl (by kernel_rfl) (by kernel_rfl) (by kernel_rfl) (fun _ _ _ h => h) (Or.inl ⟨by rfl, ?hyc12_15⟩) (by assumption) ?_
        case hyc12_15 =>
          intro w hSw
          try dsimp only at hSw
          go_simp
          try with_reducible rfl
        try simp only [Act.put, List.setIfInBounds_toArray, List.set_cons_zero, List.set_cons_succ, List.getElem_toArray, List.getElem_cons_zero, List.getElem_cons_succ]
        refine wpAnyH_take (i := 16) (v := ?vc13_16) rfl (by kernel_rfl) (by kernel_rfl) (by kernel_rfl) (fun _ _ _ h => h) (Or.inl ⟨by rfl, ?hyc13_16⟩) (by assumption) ?_
        case hyc13_16 =>
          intro w hSw
          try dsimp only at hSw
          go_simp
          try with_reducible rfl
        try simp only [Act.put, List.setIfInBounds_toArray, List.set_cons_zero, List.set_cons_succ, List.getElem_toArray, List.getElem_cons_zero, List.getElem_cons_succ]
        refine wpAnyH_ready (rs := [18]) (by kernel_rfl) (by simp) ?_
        refine AllReadyH.cons rfl (fun K hK => ?_) (AllReadyH.nil)
        go_simp
        refine (unhide CN2 _).mono ?_
        rintro e z56 ⟨n56a, n56b, rfl, _, _, hb56⟩
        have E56 := hide ((unhide E55).step hb56)
        clear hb56
        go_wp2_with fail
        refine hK.out _ _ (unhide SX _ (unhide E56)) (fun _ => ?_)
        clear hK K
        try simp only [Act.put, List.setIfInBounds_toArray, List.set_cons_zero, List.set_cons_succ, List.getElem_toArray, List.getElem_cons_zero, List.getElem_cons_succ]
        refine wpAnyH_take (i := 19) (v := ?vc14_19) rfl (by kernel_rfl) (by kernel_rfl) (by kernel_rfl) (fun _ _ _ h => h) (Or.inl ⟨by rfl, ?hyc14_19⟩) (by assumption) ?_
        case hyc14_19 =>
          intro w hSw
          try dsimp only at hSw
          go_simp
          try with_reducible rfl
        try simp only [Act.put, List.setIfInBounds_toArray, List.set_cons_zero, List.set_cons_succ, List.getElem_toArray, List.getElem_cons_zero, List.getElem_cons_succ]
        refine wpAnyH_take (i := 20) (v := ?vc15_20) rfl (by kernel_rfl) (by kernel_rfl) (by kernel_rfl) (fun _ _ _ h => h) (Or.inl ⟨by rfl, ?hyc15_20⟩) (by assumption) ?_
        case hyc15_20 =>
          intro w hSw
          try dsimp only at hSw
          go_simp
          try with_reducible rfl
        try simp only [Act.put, List.setIfInBounds_toArray, List.set_cons_zero, List.set_cons_succ, List.getElem_toArray, List.getElem_cons_zero, List.getElem_cons_succ]
        refine wpAnyH_take (i := 21) (v := ?vc16_21) rfl (by kernel_rfl) (by kernel_rfl) (by kernel_rfl) (fun _ _ _ h => h) (Or.inl ⟨by rfl, ?hyc16_21⟩) (by assumption) ?_
        case hyc16_21 =>
          intro w hSw
          try dsimp only at hSw
          go_simp
          try with_reducible rfl
        try simp only [Act.put, List.setIfInBounds_toArray, List.set_cons_zero, List.set_cons_succ, List.getElem_toArray, List.getElem_cons_zero, List.getElem_cons_succ]
        refine wpAnyH_take (i := 22) (v := ?vc17_22) rfl (by kernel_rfl) (by kernel_rfl) (by kernel_rfl) (fun _ _ _ h => h) (Or.inl ⟨by rfl, ?hyc17_22⟩) (by assumption) ?_
        case hyc17_22 =>
          intro w hSw
          try dsimp only at hSw
          go_simp
          try with_reducible rfl
        try simp only [Act.put, List.setIfInBounds_toArray, List.set_cons_zero, List.set_cons_succ, List.getElem_toArray, List.getElem_cons_zero, List.getElem_cons_succ]
        refine wpAnyH_done (by kernel_rfl) ?_ _
        go_wp2_with fail
        go_meet
        exact ⟨rfl, (unhide E56).2.1, (unhide E56).2.2⟩
      case rest =>
        obtain ⟨hv, hF⟩ := hcut
        subst hv
        have E10 := hide hF
        clear hF E82 CB1 CB2 CF1 CF2 CN1 CN2 SX hneq hgrd
        by_cases hF0 : F.length = 0
        · have d0 : ((F.length : Int) == 0) = true := by rw [hF0]; rfl
          go_wp2
          go_ret
          exact ⟨rfl, (unhide E10).2⟩
        · have d0 : ((F.length : Int) == 0) = false := beq_eq_false_iff_ne.2 (by omega)
          have eG := unhide HGe (by omega)
          subst eG
          have E11 := hide ((unhide E10).1)
          go_wp2_with fail
          have hbA := (Below.refl wc.heap.size wc).alloc (Nat.le_refl _) (.cells #[.string t] 9)
          refine (lwT u11 (.slice (some ⟨wc.heap.size, 0, none⟩) 1 1) [t] _ (by show 1 ≤ 2000000; decide) ((unhide E11).below hbA rfl) (Or.inr ⟨_, 1, _, rfl, heap_alloc_new wc _, Nat.le_refl _, fun j hj => ?_⟩)).mono ?_
          · have e0 : j = 0 := by simpa using hj
            subst e0
            rfl
          rintro e w8 ⟨rfl, hb8⟩
          have E12 := hide (((unhide E10).2.trans (hbA.mono (unhide E10).2.size)).trans (hb8.mono (Nat.le_trans (unhide E10).2.size hbA.size)))
          clear hb8 hbA
          go_wp2
          go_ret
          exact ⟨rfl, unhide E12⟩
      
end Go.Proofs.Ytfkeokfmancgiaa
