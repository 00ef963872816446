/- An end at work in memory, as the program and the model lay it: its cells, its rows, each of its own memory; how it stands behind a call, a cell that is written, a row that is laid anew, a row that grows. Are options right: the model's walk; what lay in memory stands. -/
import Derived.Test.YtghopihgnmnlcaaGreatDoorS10
import Derived.Test.YtghopihgnmnlcaaGreatDoorS00
import Derived.Test.YtghopihgnmnlcaaGreatDoorS03
namespace Go.Proofs.YtghopihgnmnlcaaGreatDoor
open Go.RowKit
/-- What changes while an event happens. -/
structure St where
  e : En
  F1 : List Op.Opt
  F2 : List Op.Opt
  sn : List Op.Pk
  tl : List ByteArray
/-- What stands: the time, what came, its options, the answer. -/
structure Cx where
  now : Int
  cc : Int
  ci : Int
  cd : ByteArray
  hd : List Op.Opt
  ac : Int
  ao : List Op.Opt
  vh : Value
  va : Value
/-- The cells of an end at work. -/
abbrev wkC (c : Cx) (e : En) (v1 v2 vs vt : Value) : List Value := [.int .i64 e.m1, .int .i64 e.a1, .int .i64 e.g1, .bool e.p1, .bool e.c1, .bool e.d1, .int .i64 e.m2, .int .i64 e.a2, .int .i64 e.g2, .bool e.p2, .bool e.c2, .bool e.d2, .int .i64 e.st, .int .i64 e.tr, .int .i64 e.du, .int .i64 e.id, .int .i64 e.fl, v1, v2, .bool e.up, .int .i64 e.i1, .int .i64 e.i2, .bool e.i3, .bool e.i4, .bool e.i5, .int .i64 e.o1, .int .i64 e.o2, .bool e.o3, .bool e.o4, .bool e.o5, .int .i64 c.now, .int .i64 c.cc, .int .i64 c.ci, .string c.cd, c.vh, .int .i64 c.ac, c.va, vs, vt]
/-- Two rows that share no block. -/
def Ap (v v' : Value) : Prop := ∀ g, v.ownBlock = some g → v'.ownBlock ≠ some g
theorem Ap.symm {v v' : Value} (h : Ap v v') : Ap v' v := fun g hg e => h g e hg
theorem Ap.none (v : Value) (n m : Nat) : Ap (.slice none n m) v := fun g hg => by cases hg
/-- A kind of end at work: its type is none of the rows'. -/
def Tt (T : TypeId) : Prop := T ≠ 118 ∧ T ≠ 35 ∧ T ≠ 9
structure Lay (T : TypeId) (w0 w1 : World) (B : Nat) (c : Cx) (s : St) (v1 v2 vs vt : Value) (q : World) : Prop where
  row : q.heap[B]? = some (.cells (wkC c s.e v1 v2 vs vt).toArray T)
  o1 : q.ownsRow w0.heap.size 118 2 v1 s.F1.length (ocells s.F1)
  o2 : q.ownsRow w0.heap.size 118 2 v2 s.F2.length (ocells s.F2)
  os : q.ownsRow w1.heap.size 35 3 vs s.sn.length (pkcells s.sn)
  ot : q.ownsRow w1.heap.size 9 1 vt s.tl.length (scells s.tl)
  hh : HoldsO q c.vh c.hd
  ha : HoldsO q c.va c.ao
  hB : w0.heap.size ≤ B
  tt : Tt T
  ap : Ap v1 v2
  lo : Below w0.heap.size w0 w1
  nr : Nr B w1 q
theorem own_ty {w : World} {base : Nat} {e T : TypeId} {size : Nat} {v : Value} {n : Nat} {xs : List Value} (h : w.ownsRow base e size v n xs) {B : Nat} {cs : Array Value} (hB : w.heap[B]? = some (.cells cs T)) (hT : T ≠ e) : v.ownBlock ≠ some B := by
  rcases h.2 with ⟨hv, _⟩ | ⟨g, cap, cur, hv, _, hg, _⟩
  · rw [hv]; simp [Value.ownBlock]
  · rw [hv]
    intro e1
    have e2 : g = B := by simpa [Value.ownBlock] using e1
    subst e2
    rw [hB] at hg
    injection hg with hg
    injection hg with _ h2 _
    exact hT h2
theorem own_ap {w : World} {b1 b2 : Nat} {e1 e2 : TypeId} {s1 s2 : Nat} {v1 v2 : Value} {n1 n2 : Nat} {x1 x2 : List Value} (h1 : w.ownsRow b1 e1 s1 v1 n1 x1) (h2 : w.ownsRow b2 e2 s2 v2 n2 x2) (hT : e1 ≠ e2) : Ap v1 v2 := by
  intro g hg
  rcases h1.2 with ⟨hv, _⟩ | ⟨g', cap, cur, hv, _, hgg, _⟩
  · rw [hv] at hg; simp [Value.ownBlock] at hg
  · rw [hv] at hg
    have e : g' = g := by simpa [Value.ownBlock] using hg
    subst e
    exact own_ty h2 hgg hT
theorem own_other {w w' : World} {base : Nat} {e : TypeId} {size : Nat} {v : Value} {n : Nat} {xs : List Value} (h : w.ownsRow base e size v n xs) (hk : ∀ g, v.ownBlock = some g → w'.heap[g]? = w.heap[g]?) : w'.ownsRow base e size v n xs := by
  refine ⟨h.1, h.2.imp id ?_⟩
  rintro ⟨g, cap, cur, hv, hb, hg, rest⟩
  exact ⟨g, cap, cur, hv, hb, (hk g (by rw [hv]; rfl)).trans hg, rest⟩
theorem own_below {w w' : World} {base : Nat} {e : TypeId} {size : Nat} {v : Value} {n : Nat} {xs : List Value} (h : w.ownsRow base e size v n xs) (hb : Below w.heap.size w w') : w'.ownsRow base e size v n xs :=
  own_other h fun g hg => hb.block g (h.lt g hg).2
theorem own_mono {w : World} {base base' : Nat} {e : TypeId} {size : Nat} {v : Value} {n : Nat} {xs : List Value} (h : w.ownsRow base e size v n xs) (hb : base' ≤ base) : w.ownsRow base' e size v n xs :=
  ⟨h.1, h.2.imp id fun ⟨g, cap, cur, h1, h2, h3⟩ => ⟨g, cap, cur, h1, Nat.le_trans hb h2, h3⟩⟩
theorem hold_ty {w : World} {v : Value} {F : List Op.Opt} (h : HoldsO w v F) {B : Nat} {w' : World} {T : TypeId} {cs : Array Value} (hB : w.heap[B]? = some (.cells cs T)) (hT : T ≠ 118) (hk : ∀ k, k < w.heap.size → k ≠ B → w'.heap[k]? = w.heap[k]?) : HoldsO w' v F := by
  rcases h with ⟨ad, cp, e, e0⟩ | ⟨g, cp, cur, e, q1, q2⟩
  · exact Or.inl ⟨ad, cp, e, e0⟩
  · refine Or.inr ⟨g, cp, cur, e, (hk g (Array.getElem?_eq_some_iff.1 q1).1 fun e2 => ?_).trans q1, q2⟩
    subst e2
    rw [hB] at q1
    injection q1 with q1
    injection q1 with _ h2 _
    exact hT h2
section
variable {T : TypeId} {w0 w1 : World} {B : Nat} {c : Cx} {s : St} {v1 v2 vs vt : Value} {q q' : World}
theorem Lay.lt (h : Lay T w0 w1 B c s v1 v2 vs vt q) : B < q.heap.size := (Array.getElem?_eq_some_iff.1 h.row).1
theorem Lay.cell (h : Lay T w0 w1 B c s v1 v2 vs vt q) {i : Nat} {v : Value} (hi : (wkC c s.e v1 v2 vs vt)[i]? = some v) : q.cell? ⟨B, i, none⟩ = some v := by
  rw [cell_of_row _ _ _ _ _ _ h.row, List.getElem?_toArray]
  exact hi
theorem Lay.frz (h : Lay T w0 w1 B c s v1 v2 vs vt q) (i : Nat) : q.frozen? ⟨B, i, none⟩ = false := Go.Proofs.YtghopihgnmnlcaaGreatDoor.frz h.row i
theorem Lay.low (h : Lay T w0 w1 B c s v1 v2 vs vt q) : Below w0.heap.size w0 q :=
  ⟨h.nr.os.trans h.lo.os, h.nr.tape.trans h.lo.tape, h.nr.output.trans h.lo.output, Nat.le_trans h.lo.size h.nr.size, fun b hb => (h.nr.block b (Nat.lt_of_lt_of_le hb h.lo.size) fun e => by have := h.hB; omega).trans (h.lo.block b hb)⟩
theorem Lay.step (h : Lay T w0 w1 B c s v1 v2 vs vt q) (hb : Below q.heap.size q q') : Lay T w0 w1 B c s v1 v2 vs vt q' :=
  ⟨(hb.block _ h.lt).trans h.row, own_below h.o1 hb, own_below h.o2 hb, own_below h.os hb, own_below h.ot hb, h.hh.below hb rfl, h.ha.below hb rfl, h.hB, h.tt, h.ap, h.lo, h.nr.of_below hb⟩
/-- A cell is written. -/
theorem Lay.setRaw (h : Lay T w0 w1 B c s v1 v2 vs vt q) (i : Nat) (v : Value) (e' : En) (he : (wkC c s.e v1 v2 vs vt).set i v = wkC c e' v1 v2 vs vt) : Lay T w0 w1 B c { s with e := e' } v1 v2 vs vt (q.setCell ⟨B, i, none⟩ v) := by
  have hr := heap_setCell_same q B i _ _ v h.row
  rw [List.setIfInBounds_toArray, he] at hr
  have hk : ∀ k, k ≠ B → (q.setCell ⟨B, i, none⟩ v).heap[k]? = q.heap[k]? := fun k hk => heap_setCell_other q _ _ _ hk
  refine ⟨hr, own_other h.o1 fun g hg => hk g fun e => own_ty h.o1 h.row h.tt.1 (e ▸ hg), own_other h.o2 fun g hg => hk g fun e => own_ty h.o2 h.row h.tt.1 (e ▸ hg), own_other h.os fun g hg => hk g fun e => own_ty h.os h.row h.tt.2.1 (e ▸ hg), own_other h.ot fun g hg => hk g fun e => own_ty h.ot h.row h.tt.2.2 (e ▸ hg), hold_ty h.hh h.row h.tt.1 fun k _ => hk k, hold_ty h.ha h.row h.tt.1 fun k _ => hk k, h.hB, h.tt, h.ap, h.lo, h.nr.setCell i v⟩
/-- All but the end itself stands. -/
theorem Lay.ofNr (h : Lay T w0 w1 B c s v1 v2 vs vt q) {e' : En} (hr : q'.heap[B]? = some (.cells (wkC c e' v1 v2 vs vt).toArray T)) (hn : Nr B q q') : Lay T w0 w1 B c { s with e := e' } v1 v2 vs vt q' := by
  have hk : ∀ k, k < q.heap.size → k ≠ B → q'.heap[k]? = q.heap[k]? := hn.block
  refine ⟨hr, own_other h.o1 fun g hg => hk g (h.o1.lt g hg).2 fun e => own_ty h.o1 h.row h.tt.1 (e ▸ hg), own_other h.o2 fun g hg => hk g (h.o2.lt g hg).2 fun e => own_ty h.o2 h.row h.tt.1 (e ▸ hg), own_other h.os fun g hg => hk g (h.os.lt g hg).2 fun e => own_ty h.os h.row h.tt.2.1 (e ▸ hg), own_other h.ot fun g hg => hk g (h.ot.lt g hg).2 fun e => own_ty h.ot h.row h.tt.2.2 (e ▸ hg), hold_ty h.hh h.row h.tt.1 hk, hold_ty h.ha h.row h.tt.1 hk, h.hB, h.tt, h.ap, h.lo, h.nr.trans hn⟩
/-- Mine is laid anew. -/
theorem Lay.new1 (h : Lay T w0 w1 B c s v1 v2 vs vt q) (hb : Below q.heap.size q q') (v : Value) (F : List Op.Opt) (ho : q'.ownsRow q.heap.size 118 2 v F.length (ocells F)) : Lay T w0 w1 B c { s with F1 := F } v v2 vs vt (q'.setCell ⟨B, 17, none⟩ v) := by
  have h' := h.step hb
  have hr := heap_setCell_same q' B 17 _ _ v h'.row
  rw [List.setIfInBounds_toArray] at hr
  have hk : ∀ k, k ≠ B → (q'.setCell ⟨B, 17, none⟩ v).heap[k]? = q'.heap[k]? := fun k hk => heap_setCell_other q' _ _ _ hk
  have hs := h.low.size
  refine ⟨hr, own_other (own_mono ho hs) fun g hg => hk g fun e => ?_, own_other h'.o2 fun g hg => hk g fun e => own_ty h'.o2 h'.row h.tt.1 (e ▸ hg), own_other h'.os fun g hg => hk g fun e => own_ty h'.os h'.row h.tt.2.1 (e ▸ hg), own_other h'.ot fun g hg => hk g fun e => own_ty h'.ot h'.row h.tt.2.2 (e ▸ hg), hold_ty h'.hh h'.row h.tt.1 fun k _ => hk k, hold_ty h'.ha h'.row h.tt.1 fun k _ => hk k, h.hB, h.tt, fun g hg e => ?_, h.lo, h'.nr.setCell 17 v⟩
  · exact own_ty ho h'.row h.tt.1 (e ▸ hg)
  · have h1 := (ho.lt g hg).1
    have h2 := (h.o2.lt g e).2
    omega
/-- Where nothing was sent and told yet, what lies there now may be what is kept. -/
theorem Lay.rebase (h : Lay T w0 w1 B c s v1 v2 (.slice none 0 0) (.slice none 0 0) q) (hs : s.sn = []) (ht : s.tl = []) : Lay T w0 q B c s v1 v2 (.slice none 0 0) (.slice none 0 0) q :=
  ⟨h.row, h.o1, h.o2, by rw [hs]; exact World.ownsRow_nil _ _ _ _, by rw [ht]; exact World.ownsRow_nil _ _ _ _, h.hh, h.ha, h.hB, h.tt, h.ap, h.low, Nr.refl _ _⟩
/-- A packet more. -/
theorem Lay.put (h : Lay T w0 w1 B c s v1 v2 vs vt q) (o : Obj) {q2 : World} (hg : (q.alloc o).grownBy q2 vs.ownBlock) (v : Value) (P : List Op.Pk) (ho : q2.ownsRow w1.heap.size 35 3 v P.length (pkcells P)) : Lay T w0 w1 B c { s with sn := P } v1 v2 v vt (q2.setCell ⟨B, 37, none⟩ v) := by
  have h' := h.step ((Below.refl q.heap.size q).alloc (Nat.le_refl _) o)
  have n0 := own_ty h'.os h'.row h.tt.2.1
  have r2 : q2.heap[B]? = some (.cells (wkC c s.e v1 v2 vs vt).toArray T) := (hg.block B h'.lt (fun e => n0 e.symm)).trans h'.row
  have hr := heap_setCell_same q2 B 37 _ _ v r2
  rw [List.setIfInBounds_toArray] at hr
  have hk : ∀ k, k ≠ B → (q2.setCell ⟨B, 37, none⟩ v).heap[k]? = q2.heap[k]? := fun k hk => heap_setCell_other q2 _ _ _ hk
  have k1 : ∀ {bs : Nat} {e : TypeId} {size : Nat} {u : Value} {n : Nat} {xs : List Value}, (q.alloc o).ownsRow bs e size u n xs → T ≠ e → 35 ≠ e → (q2.setCell ⟨B, 37, none⟩ v).ownsRow bs e size u n xs := by
    intro bs e size u n xs hu ht hp
    have a2 := own_ap hu h'.os (fun e => hp e.symm)
    have h3 := World.ownsRow.kept hu hg (by cases hv : u.ownBlock with | none => exact Or.inl rfl | some g => exact Or.inr fun e => a2 g hv e.symm)
    exact own_other h3 fun g hg => hk g fun e => own_ty h3 r2 ht (e ▸ hg)
  have k2 : ∀ {u : Value} {F : List Op.Opt}, HoldsO (q.alloc o) u F → HoldsO (q2.setCell ⟨B, 37, none⟩ v) u F := by
    intro u F hu
    have h3 : HoldsO q2 u F := by
      rcases hu with ⟨ad, cp, e, e0⟩ | ⟨g, cp, cur, e, q1, r1⟩
      · exact Or.inl ⟨ad, cp, e, e0⟩
      · exact Or.inr ⟨g, cp, cur, e, (hg.block g (Array.getElem?_eq_some_iff.1 q1).1 fun e2 => own_ty h'.os q1 (by decide) e2.symm).trans q1, r1⟩
    exact hold_ty h3 r2 h.tt.1 fun k _ => hk k
  refine ⟨hr, k1 h'.o1 h.tt.1 (by decide), k1 h'.o2 h.tt.1 (by decide), own_other ho fun g hg => hk g fun e => own_ty ho r2 h.tt.2.1 (e ▸ hg), k1 h'.ot h.tt.2.2 (by decide), k2 h'.hh, k2 h'.ha, h.hB, h.tt, h.ap, h.lo, ?_⟩
  refine Nr.setCell ?_ 37 v
  have hl := h'.nr
  exact ⟨hg.os.trans hl.os, hg.tape.trans hl.tape, hg.output.trans hl.output, Nat.le_trans hl.size hg.size, fun b hb hn => (hg.block b (Nat.lt_of_lt_of_le hb hl.size) fun e => by have := (h'.os.lt b e.symm).1; omega).trans (hl.block b hb hn)⟩
/-- A word more. -/
theorem Lay.say (h : Lay T w0 w1 B c s v1 v2 vs vt q) (o : Obj) {q2 : World} (hg : (q.alloc o).grownBy q2 vt.ownBlock) (v : Value) (P : List ByteArray) (ho : q2.ownsRow w1.heap.size 9 1 v P.length (scells P)) : Lay T w0 w1 B c { s with tl := P } v1 v2 vs v (q2.setCell ⟨B, 38, none⟩ v) := by
  have h' := h.step ((Below.refl q.heap.size q).alloc (Nat.le_refl _) o)
  have n0 := own_ty h'.ot h'.row h.tt.2.2
  have r2 : q2.heap[B]? = some (.cells (wkC c s.e v1 v2 vs vt).toArray T) := (hg.block B h'.lt (fun e => n0 e.symm)).trans h'.row
  have hr := heap_setCell_same q2 B 38 _ _ v r2
  rw [List.setIfInBounds_toArray] at hr
  have hk : ∀ k, k ≠ B → (q2.setCell ⟨B, 38, none⟩ v).heap[k]? = q2.heap[k]? := fun k hk => heap_setCell_other q2 _ _ _ hk
  have k1 : ∀ {bs : Nat} {e : TypeId} {size : Nat} {u : Value} {n : Nat} {xs : List Value}, (q.alloc o).ownsRow bs e size u n xs → T ≠ e → 9 ≠ e → (q2.setCell ⟨B, 38, none⟩ v).ownsRow bs e size u n xs := by
    intro bs e size u n xs hu ht hp
    have a2 := own_ap hu h'.ot (fun e => hp e.symm)
    have h3 := World.ownsRow.kept hu hg (by cases hv : u.ownBlock with | none => exact Or.inl rfl | some g => exact Or.inr fun e => a2 g hv e.symm)
    exact own_other h3 fun g hg => hk g fun e => own_ty h3 r2 ht (e ▸ hg)
  have k2 : ∀ {u : Value} {F : List Op.Opt}, HoldsO (q.alloc o) u F → HoldsO (q2.setCell ⟨B, 38, none⟩ v) u F := by
    intro u F hu
    have h3 : HoldsO q2 u F := by
      rcases hu with ⟨ad, cp, e, e0⟩ | ⟨g, cp, cur, e, q1, r1⟩
      · exact Or.inl ⟨ad, cp, e, e0⟩
      · exact Or.inr ⟨g, cp, cur, e, (hg.block g (Array.getElem?_eq_some_iff.1 q1).1 fun e2 => own_ty h'.ot q1 (by decide) e2.symm).trans q1, r1⟩
    exact hold_ty h3 r2 h.tt.1 fun k _ => hk k
  refine ⟨hr, k1 h'.o1 h.tt.1 (by decide), k1 h'.o2 h.tt.1 (by decide), k1 h'.os h.tt.2.1 (by decide), own_other ho fun g hg => hk g fun e => own_ty ho r2 h.tt.2.2 (e ▸ hg), k2 h'.hh, k2 h'.ha, h.hB, h.tt, h.ap, h.lo, ?_⟩
  refine Nr.setCell ?_ 38 v
  have hl := h'.nr
  exact ⟨hg.os.trans hl.os, hg.tape.trans hl.tape, hg.output.trans hl.output, Nat.le_trans hl.size hg.size, fun b hb hn => (hg.block b (Nat.lt_of_lt_of_le hb hl.size) fun e => by have := (h'.ot.lt b e.symm).1; omega).trans (hl.block b hb hn)⟩
end
end Go.Proofs.YtghopihgnmnlcaaGreatDoor
namespace Go.Proofs.YtghopihgnmnlcaaGreatDoor
open Go.RowKit
set_option maxHeartbeats 1000000 in
theorem specRight0 (ad : Option Addr) (cp : Nat) (w : World) : Calls Tryz.prog 70 #[.slice ad 0 cp] w fun e w' => e = .returned (.bool true) ∧ Below w.heap.size w w' := by
  go_enter Tryz.func70, Tryz.ntmps70
  go_wp2_with fail
  go_loopw [3] (fun y wr => y = .int .i64 0 ∧ wr = w) (fun _ _ => 0)
  case atStart => exact ⟨rfl, rfl⟩
  case round =>
    obtain ⟨rfl, rfl⟩ := hrel
    go_wp2
    go_ret
    exact ⟨rfl, Below.refl _ _⟩
set_option maxHeartbeats 2000000 in
theorem specRightG (g cp : Nat) (F : List Op.Opt) (cur : Array Value) (w : World) (hm : F.length ≤ maxLen) (h1 : w.heap[g]? = some (.cells cur 118)) (a1 : ∀ j, j < F.length * 2 → cur[j]? = (ocells F)[j]?) :
    Calls Tryz.prog 70 #[.slice (some ⟨g, 0, none⟩) F.length cp] w fun e w' => e = .returned (.bool (Op.right F)) ∧ Below w.heap.size w w' := by
  unfold maxLen at hm
  have hl1 : g < w.heap.size := (Array.getElem?_eq_some_iff.1 h1).1
  obtain ⟨n, hn⟩ : ∃ n, F.length = n := ⟨_, rfl⟩
  by_cases h20 : 20 < n
  · have d0 : (20 : Int) < (n : Int) := by omega
    rw [right_long (by omega), hn]
    go_enter Tryz.func70, Tryz.ntmps70
    go_wp2
    go_ret
    exact ⟨rfl, Below.refl _ _⟩
  · have d0 : ¬ ((20 : Int) < (n : Int)) := by omega
    have HA : Hid (∀ i (hi : i < n), cur[i * 2]? = some (.int .i64 (F[i]'(by omega)).kind) ∧ cur[i * 2 + 1]? = some (.string (F[i]'(by omega)).data)) := by
      refine hide fun i hi => ?_
      have q := ocells_get F i (F[i]'(by omega)) (List.getElem?_eq_getElem (by omega))
      exact ⟨(a1 _ (by omega)).trans q.1, (a1 _ (by omega)).trans q.2⟩
    have HT : Hid ((∀ k (hk : k < n), Op.ok (F[k]'(by omega)) = true) → Op.right F = true) := hide fun h => right_true (by omega) fun k hk => h k (by omega)
    have HF : Hid (∀ k (hk : k < n), Op.ok (F[k]'(by omega)) = false → Op.right F = false) := hide fun k hk h => right_false (by omega) h
    rw [hn]
    clear a1 hm
    generalize Op.right F = RT at *
    go_enter Tryz.func70, Tryz.ntmps70
    go_wp2_with fail
    go_loopw [3] (fun y wr => ∃ (i : Nat), i ≤ n ∧ y = .int .i64 i ∧ (∀ k (hk : k < i) (hkn : k < n), Op.ok (F[k]'(by omega)) = true) ∧ Below w.heap.size w wr) (fun y _ => n - (intOf y).toNat)
    case atStart => exact ⟨0, Nat.zero_le _, rfl, fun k hk => by omega, Below.refl _ _⟩
    case round =>
      obtain ⟨i, hi, rfl, hall, hb⟩ := hrel
      by_cases hlt : i < n
      · have d1 : (i : Int) < (n : Int) := by omega
        obtain ⟨q1, q2⟩ := unhide HA i hlt
        have e1 := (hb.block g hl1).trans h1
        have hf := unhide HF i hlt
        have hall2 : Op.ok (F[i]'(by omega)) = true → ∀ k (hk : k < i + 1) (hkn : k < n), Op.ok (F[k]'(by omega)) = true := by
          intro h k hk hkn
          rcases Nat.lt_or_ge k i with hk2 | hk2
          · exact hall k hk2 hkn
          · have : k = i := by omega
            subst this
            exact h
        generalize hO : F[i]'(by omega) = o at *
        have k0 : wr.cell? ⟨g, i * 2, none⟩ = some (.int .i64 o.kind) := by rw [cell_of_row _ _ _ _ _ _ e1]; exact q1
        have k1 : wr.cell? ⟨g, i * 2 + 1, none⟩ = some (.string o.data) := by rw [cell_of_row _ _ _ _ _ _ e1]; exact q2
        have HAL := hide hall2
        have HFF := hide hf
        have C := hide fun v => specIs255 o.kind 1 v
        obtain ⟨kd, dt⟩ := o
        dsimp only at k0 k1 C
        clear q1 q2 e1 hall hall2 hf hO HA HT HF h1
        refine ok_ways ⟨kd, dt⟩ _ (fun a r => ?_) (fun a b r => ?_) (fun a b c r => ?_) (fun a b c r => ?_)
        all_goals dsimp only at *
        · have hR := unhide HFF r
          subst hR
          rw [show (decide (1 ≤ kd) && decide (kd ≤ 255)) = false by simp; omega] at C
          clear HFF HAL r a
          go_wp2_with (first | (go_at_call 74; refine (unhide C _).mono ?_; rintro e w2 ⟨rfl, hw⟩; replace hw := hw.symm; subst hw))
          go_ret
          exact ⟨rfl, hb⟩
        · have hR := unhide HFF r
          subst hR
          rw [show (decide (1 ≤ kd) && decide (kd ≤ 255)) = false by simp; omega] at C
          clear HFF HAL r a b
          go_wp2_with (first | (go_at_call 74; refine (unhide C _).mono ?_; rintro e w2 ⟨rfl, hw⟩; replace hw := hw.symm; subst hw))
          go_ret
          exact ⟨rfl, hb⟩
        · have f2 : decide ((20 : Int) < (dt.size : Int)) = true := decide_eq_true (by omega)
          have hR := unhide HFF r
          subst hR
          rw [show (decide (1 ≤ kd) && decide (kd ≤ 255)) = true by simp; omega] at C
          clear HFF HAL r a b c
          go_wp2_with (first | (go_at_call 74; refine (unhide C _).mono ?_; rintro e w2 ⟨rfl, hw⟩; replace hw := hw.symm; subst hw))
          go_ret
          exact ⟨rfl, hb⟩
        · have f2 : decide ((20 : Int) < (dt.size : Int)) = false := decide_eq_false (by omega)
          have hR := unhide HAL r
          have HR := hide hR
          rw [show (decide (1 ≤ kd) && decide (kd ≤ 255)) = true by simp; omega] at C
          clear HFF HAL r a b c hR
          go_wp2_with (first | (go_at_call 74; refine (unhide C _).mono ?_; rintro e w2 ⟨rfl, hw⟩; replace hw := hw.symm; subst hw))
          go_roundw
          case rel => exact ⟨i + 1, by omega, by go_num, unhide HR, hb⟩
          case measure => simp [intOf]; omega
      · have e : i = n := by omega
        subst e
        have d1 : ¬ ((i : Int) < (i : Int)) := by omega
        have hR := unhide HT fun k hk => hall k hk hk
        subst hR
        go_wp2
        go_ret
        exact ⟨rfl, hb⟩
theorem specRightAll (v : Value) (F : List Op.Opt) (w : World) (hm : F.length ≤ maxLen) (h : HoldsO w v F) :
    Calls Tryz.prog 70 #[v] w fun e w' => e = .returned (.bool (Op.right F)) ∧ Below w.heap.size w w' := by
  rcases h with ⟨ad, cp, rfl, rfl⟩ | ⟨g, cp, cur, rfl, h2, _, h4⟩
  · exact specRight0 ad cp w
  · exact specRightG g cp F cur w hm h2 h4
end Go.Proofs.YtghopihgnmnlcaaGreatDoor
