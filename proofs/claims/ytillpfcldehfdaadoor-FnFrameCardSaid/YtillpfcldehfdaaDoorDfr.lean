/- A deframing in memory: what its cells hold, and the walks of put and tell; only the deframing itself and new memory are turned. -/
import Derived.Test.YtillpfcldehfdaaDoorStuff
import Derived.Deep.MidRow
import Derived.Deep.WholeRow
namespace Go.Proofs.YtillpfcldehfdaaDoor
open Go.RowKit
/-- Only block B has turned, and new blocks have come. -/
structure Near (B : Nat) (w w' : World) : Prop where
  os : w'.os = w.os
  tape : w'.tape = w.tape
  output : w'.output = w.output
  size : w.heap.size ≤ w'.heap.size
  block : ∀ k, k < w.heap.size → k ≠ B → w'.heap[k]? = w.heap[k]?
theorem Near.refl (B : Nat) (w : World) : Near B w w := ⟨rfl, rfl, rfl, Nat.le_refl _, fun _ _ _ => rfl⟩
theorem Near.trans {B : Nat} {a b c : World} (h : Near B a b) (k : Near B b c) : Near B a c :=
  ⟨k.os.trans h.os, k.tape.trans h.tape, k.output.trans h.output, Nat.le_trans h.size k.size, fun i hi hn => (k.block i (Nat.lt_of_lt_of_le hi h.size) hn).trans (h.block i hi hn)⟩
theorem Near.drew {B : Nat} {a w : World} (h : Near B a w) : Near B a w.drew := ⟨h.os, h.tape, h.output, h.size, h.block⟩
theorem Near.setCell {B : Nat} {a w : World} (h : Near B a w) (o : Nat) (v : Value) : Near B a (w.setCell ⟨B, o, none⟩ v) := by
  have hb := (Below.refl 0 w).setCell (p := ⟨B, o, none⟩) (Nat.zero_le _) v
  exact ⟨hb.os.trans h.os, hb.tape.trans h.tape, hb.output.trans h.output, Nat.le_trans h.size hb.size, fun k hk hn => (Below.heap_setCell w ⟨B, o, none⟩ v k hn).trans (h.block k hk hn)⟩
theorem Near.of_below {B : Nat} {a w w' : World} (h : Near B a w) (hb : Below w.heap.size w w') : Near B a w' :=
  h.trans ⟨hb.os, hb.tape, hb.output, hb.size, fun k hk _ => hb.block k hk⟩
theorem Near.alloc {B : Nat} {a w : World} (h : Near B a w) (o : Obj) : Near B a (w.alloc o) := h.of_below ((Below.refl _ _).alloc (Nat.le_refl _) _)
theorem Near.below {B n : Nat} {w w' : World} (h : Near B w w') (hn : n ≤ B) (hw : n ≤ w.heap.size) : Below n w w' :=
  ⟨h.os, h.tape, h.output, h.size, fun k hk => h.block k (by omega) (by omega)⟩

/-- The closure that asks what is mapped, its accm in block g. -/
abbrev mapFn (g : Nat) : Value := .func (.func 80) #[] #[.pointer (some ⟨g, 0, none⟩)]
/-- What the cells of a deframing hold. -/
structure Dc (cs : Array Value) (g : Nat) (wide long : Bool) (held : List UInt8) (fs : List Hd.Fd) : Prop where
  size : cs.size = 1109
  c0 : cs[0]? = some (.bool wide)
  c1 : cs[1]? = some (.bool long)
  c2 : cs[2]? = some (.func (.func 80) #[] #[.pointer (some ⟨g, 0, none⟩)])
  cz : cs[307]? = some (.int .i64 held.length)
  cn : cs[1108]? = some (.int .i64 fs.length)
  hl : held.length ≤ 304
  fl : fs.length ≤ 400
  hv : ∀ i c, held[i]? = some c → cs[3 + i]? = some (.int .u8 c.toNat)
  fk : ∀ i f, fs[i]? = some f → cs[308 + i * 2]? = some (.int .i64 f.kind)
  ft : ∀ i f, fs[i]? = some f → cs[308 + i * 2 + 1]? = some (.string (txt f.text))
theorem set_ne {cs : Array Value} {i j : Nat} {v : Value} (h : i ≠ j) : (cs.setIfInBounds i v)[j]? = cs[j]? := Array.getElem?_setIfInBounds_ne h
theorem set_eq {cs : Array Value} {i : Nat} {v : Value} (h : i < cs.size) : (cs.setIfInBounds i v)[i]? = some v := by
  rw [Array.getElem?_setIfInBounds_self, if_pos h]
theorem set_size {cs : Array Value} {i : Nat} {v : Value} : (cs.setIfInBounds i v).size = cs.size := Array.size_setIfInBounds ..
theorem get_lt {α : Type} {l : List α} {i : Nat} {x : α} (h : l[i]? = some x) : i < l.length := (List.getElem?_eq_some_iff.1 h).1
theorem Dc.setLong {cs : Array Value} {g : Nat} {wide long : Bool} {held : List UInt8} {fs : List Hd.Fd} (h : Dc cs g wide long held fs) (b : Bool) : Dc (cs.setIfInBounds 1 (.bool b)) g wide b held fs where
  size := by rw [set_size, h.size]
  c0 := by rw [set_ne (by decide)]; exact h.c0
  c1 := set_eq (by rw [h.size]; decide)
  c2 := by rw [set_ne (by decide)]; exact h.c2
  cz := by rw [set_ne (by decide)]; exact h.cz
  cn := by rw [set_ne (by decide)]; exact h.cn
  hl := h.hl
  fl := h.fl
  hv := fun i c hc => by rw [set_ne (by omega)]; exact h.hv i c hc
  fk := fun i f hf => by rw [set_ne (by omega)]; exact h.fk i f hf
  ft := fun i f hf => by rw [set_ne (by omega)]; exact h.ft i f hf
theorem Dc.clear {cs : Array Value} {g : Nat} {wide long : Bool} {held : List UInt8} {fs : List Hd.Fd} (h : Dc cs g wide long held fs) : Dc (cs.setIfInBounds 307 (.int .i64 0)) g wide long [] fs where
  size := by rw [set_size, h.size]
  c0 := by rw [set_ne (by decide)]; exact h.c0
  c1 := by rw [set_ne (by decide)]; exact h.c1
  c2 := by rw [set_ne (by decide)]; exact h.c2
  cz := set_eq (by rw [h.size]; decide)
  cn := by rw [set_ne (by decide)]; exact h.cn
  hl := by simp
  fl := h.fl
  hv := fun i c hc => by simp at hc
  fk := fun i f hf => by have := get_lt hf; rw [set_ne (by omega)]; exact h.fk i f hf
  ft := fun i f hf => by have := get_lt hf; rw [set_ne (by omega)]; exact h.ft i f hf
theorem Dc.put {cs : Array Value} {g : Nat} {wide long : Bool} {held : List UInt8} {fs : List Hd.Fd} (h : Dc cs g wide long held fs) (c : UInt8) (hlt : held.length < 304) (s : Int) (hs : s = ((held.length + 1 : Nat) : Int)) :
    Dc ((cs.setIfInBounds (3 + held.length) (.int .u8 c.toNat)).setIfInBounds 307 (.int .i64 s)) g wide long (held ++ [c]) fs where
  size := by rw [set_size, set_size, h.size]
  c0 := by rw [set_ne (by decide), set_ne (by omega)]; exact h.c0
  c1 := by rw [set_ne (by decide), set_ne (by omega)]; exact h.c1
  c2 := by rw [set_ne (by decide), set_ne (by omega)]; exact h.c2
  cz := by rw [set_eq (by rw [set_size, h.size]; decide), hs]; simp
  cn := by rw [set_ne (by decide), set_ne (by omega)]; exact h.cn
  hl := by simp; omega
  fl := h.fl
  hv := fun i d hd => by
    rw [set_ne (by have := get_lt hd; simp at this; omega)]
    by_cases e : i = held.length
    · subst e
      rw [set_eq (by rw [h.size]; omega)]
      simp at hd
      rw [hd]
    · have hi := get_lt hd
      simp at hi
      rw [set_ne (by omega)]
      rw [List.getElem?_append_left (by omega)] at hd
      exact h.hv i d hd
  fk := fun i f hf => by have := get_lt hf; rw [set_ne (by omega), set_ne (by omega)]; exact h.fk i f hf
  ft := fun i f hf => by have := get_lt hf; rw [set_ne (by omega), set_ne (by omega)]; exact h.ft i f hf
theorem Dc.found {cs : Array Value} {g : Nat} {wide long : Bool} {held : List UInt8} {fs : List Hd.Fd} (h : Dc cs g wide long held fs) (f : Hd.Fd) (hlt : fs.length < 400) (s : Int) (hs : s = ((fs.length + 1 : Nat) : Int)) :
    Dc (((cs.setIfInBounds (308 + fs.length * 2) (.int .i64 f.kind)).setIfInBounds (308 + fs.length * 2 + 1) (.string (txt f.text))).setIfInBounds 1108 (.int .i64 s)) g wide long held (fs ++ [f]) where
  size := by rw [set_size, set_size, set_size, h.size]
  c0 := by rw [set_ne (by decide), set_ne (by omega), set_ne (by omega)]; exact h.c0
  c1 := by rw [set_ne (by decide), set_ne (by omega), set_ne (by omega)]; exact h.c1
  c2 := by rw [set_ne (by decide), set_ne (by omega), set_ne (by omega)]; exact h.c2
  cz := by rw [set_ne (by decide), set_ne (by omega), set_ne (by omega)]; exact h.cz
  cn := by rw [set_eq (by rw [set_size, set_size, h.size]; decide), hs]; simp
  hl := h.hl
  fl := by simp; omega
  hv := fun i d hd => by have := get_lt hd; have := h.hl; rw [set_ne (by omega), set_ne (by omega), set_ne (by omega)]; exact h.hv i d hd
  fk := fun i d hd => by
    have hi := get_lt hd
    simp at hi
    rw [set_ne (by omega)]
    by_cases e : i = fs.length
    · subst e
      rw [set_ne (by omega), set_eq (by rw [h.size]; omega)]
      simp at hd
      rw [hd]
    · rw [set_ne (by omega), set_ne (by omega)]
      rw [List.getElem?_append_left (by omega)] at hd
      exact h.fk i d hd
  ft := fun i d hd => by
    have hi := get_lt hd
    simp at hi
    rw [set_ne (by omega)]
    by_cases e : i = fs.length
    · subst e
      rw [set_eq (by rw [set_size, h.size]; omega)]
      simp at hd
      rw [hd]
    · rw [set_ne (by omega), set_ne (by omega)]
      rw [List.getElem?_append_left (by omega)] at hd
      exact h.ft i d hd
/-- A deframing at block B. -/
def Dw (w : World) (B g : Nat) (wide long : Bool) (held : List UInt8) (fs : List Hd.Fd) : Prop := ∃ cs, w.heap[B]? = some (.cells cs 84) ∧ Dc cs g wide long held fs
theorem Dw.same {w w' : World} {B g : Nat} {wide long : Bool} {held : List UInt8} {fs : List Hd.Fd} (h : Dw w B g wide long held fs) (hb : w'.heap[B]? = w.heap[B]?) : Dw w' B g wide long held fs := by
  obtain ⟨cs, h1, h2⟩ := h
  exact ⟨cs, hb.trans h1, h2⟩
theorem Dw.lt {w : World} {B g : Nat} {wide long : Bool} {held : List UInt8} {fs : List Hd.Fd} (h : Dw w B g wide long held fs) : B < w.heap.size := by
  obtain ⟨cs, h1, h2⟩ := h
  exact (Array.getElem?_eq_some_iff.1 h1).1

set_option maxHeartbeats 1000000 in
theorem putW (w : World) (B g : Nat) (wide long : Bool) (held : List UInt8) (fs : List Hd.Fd) (c : UInt8) (h : Dw w B g wide long held fs) :
    Calls Tryd.prog 82 #[.pointer (some ⟨B, 0, none⟩), .int .u8 c.toNat] w fun e w' => e = .returned (.tuple #[]) ∧
      Dw w' B g wide (if held.length = 304 then true else long) (if held.length = 304 then held else held ++ [c]) fs ∧ Near B w w' := by
  obtain ⟨cs, hB, hd⟩ := h
  have e1 : w.cell? ⟨B, 307, none⟩ = some (.int .i64 held.length) := by rw [cell_of_row _ _ _ _ _ _ hB]; exact hd.cz
  have e2 : w.cell? ⟨B, 1, none⟩ = some (.bool long) := by rw [cell_of_row _ _ _ _ _ _ hB]; exact hd.c1
  have f1 := frz hB 307
  have f2 := frz hB 1
  have hl := hd.hl
  have HB := hide hB
  have HD := hide hd
  by_cases hf : held.length = 304
  · rw [if_pos hf, if_pos hf]
    have d1 : ((held.length : Int) == 304) = true := beq_iff_eq.2 (by omega)
    clear hB hd
    go_enter Tryd.func82, Tryd.ntmps82
    go_wp2
    refine bodyPost_ret (v := .tuple #[]) (by simp [results, Tryd.results82, go_sem]) rfl ⟨rfl, ⟨_, heap_setCell_same w B 1 _ _ _ (unhide HB), (unhide HD).setLong true⟩, (Near.refl _ _).setCell 1 _⟩
  · rw [if_neg hf, if_neg hf]
    have d1 : ((held.length : Int) == 304) = false := beq_eq_false_iff_ne.2 (by omega)
    have hlt : held.length < 304 := by omega
    have f3 := frz hB (3 + held.length)
    obtain ⟨v3, e3⟩ : ∃ v, w.cell? ⟨B, 3 + held.length, none⟩ = some v := by
      rw [cell_of_row _ _ _ _ _ _ hB]
      exact ⟨_, Array.getElem?_eq_getElem (by rw [hd.size]; omega)⟩
    clear hB hd
    go_enter Tryd.func82, Tryd.ntmps82
    go_wp2_with fail
    have n1 : ¬ (307 = 3 + held.length) := by omega
    have n2 : ¬ (3 + held.length = 307) := by omega
    have n3 : ¬ (304 = held.length) := by omega
    go_region
    go_wp2
    have e7 : ((held.length : Int) + 1) = ((held.length + 1 : Nat) : Int) := by omega
    refine bodyPost_end (v := .tuple #[]) (by simp [results, Tryd.results82, go_sem]) rfl ⟨rfl, ⟨_, heap_setCell_same _ B 307 _ _ _ (heap_setCell_same w B (3 + held.length) _ _ _ (unhide HB)), (unhide HD).put c hlt _ e7⟩, (((Near.refl _ _).setCell (3 + held.length) _).drew).setCell 307 _⟩
set_option maxHeartbeats 1000000 in
theorem tellW (w : World) (B g : Nat) (wide long : Bool) (held : List UInt8) (fs : List Hd.Fd) (f : Hd.Fd) (h : Dw w B g wide long held fs) :
    Calls Tryd.prog 83 #[.pointer (some ⟨B, 0, none⟩), .agg #[.int .i64 f.kind, .string (txt f.text)]] w fun e w' => e = .returned (.tuple #[]) ∧
      Dw w' B g wide false [] (if fs.length < 400 then fs ++ [f] else fs) ∧ Near B w w' := by
  have hBw := h.lt
  obtain ⟨cs, hB, hd⟩ := h
  have e0 : w.cell? ⟨B, 307, none⟩ = some (.int .i64 held.length) := by rw [cell_of_row _ _ _ _ _ _ hB]; exact hd.cz
  have e1 : w.cell? ⟨B, 1, none⟩ = some (.bool long) := by rw [cell_of_row _ _ _ _ _ _ hB]; exact hd.c1
  have e2 : w.cell? ⟨B, 1108, none⟩ = some (.int .i64 fs.length) := by rw [cell_of_row _ _ _ _ _ _ hB]; exact hd.cn
  have f0 := frz hB 307
  have f1 := frz hB 1
  have f2 := frz hB 1108
  have hl := hd.fl
  have hne : ¬ (B = w.heap.size) := by omega
  have HB := hide hB
  have HD := hide hd
  by_cases hf : fs.length < 400
  · rw [if_pos hf]
    have d1 : (fs.length : Int) < 400 := by omega
    have f3 := frz hB (308 + fs.length * 2)
    have f4 := frz hB (308 + fs.length * 2 + 1)
    obtain ⟨v3, e3⟩ : ∃ v, w.cell? ⟨B, 308 + fs.length * 2, none⟩ = some v := by
      rw [cell_of_row _ _ _ _ _ _ hB]
      exact ⟨_, Array.getElem?_eq_getElem (by rw [hd.size]; omega)⟩
    obtain ⟨v4, e4⟩ : ∃ v, w.cell? ⟨B, 308 + fs.length * 2 + 1, none⟩ = some v := by
      rw [cell_of_row _ _ _ _ _ _ hB]
      exact ⟨_, Array.getElem?_eq_getElem (by rw [hd.size]; omega)⟩
    clear hB hd
    have HF : Hid (∀ s : Int, s = ((fs.length + 1 : Nat) : Int) → Dc ((((((cs.setIfInBounds 1 (.bool false)).setIfInBounds 307 (.int .i64 0)).setIfInBounds (308 + fs.length * 2) (.int .i64 f.kind)).setIfInBounds (308 + fs.length * 2 + 1) (.string (txt f.text))).setIfInBounds 1108 (.int .i64 s))) g wide false [] (fs ++ [f])) :=
      hide fun s hs => (((unhide HD).setLong false).clear).found f hf s hs
    generalize f.kind = K at *
    generalize txt f.text = T at *
    have n1 : ¬ (1108 = 308 + fs.length * 2) := by omega
    have n2 : ¬ (1108 = 308 + fs.length * 2 + 1) := by omega
    have n3 : ¬ (308 + fs.length * 2 = 1108) := by omega
    have n4 : ¬ (308 + fs.length * 2 + 1 = 1108) := by omega
    have n5 : ¬ (800 = fs.length * 2) := by omega
    have n6 : ¬ (799 = fs.length * 2) := by omega
    have n7 : ¬ (307 = 308 + fs.length * 2) := by omega
    have n8 : ¬ (1 = 308 + fs.length * 2) := by omega
    go_enter Tryd.func83, Tryd.ntmps83
    go_wp2_with fail
    go_region
    go_wp2
    have e7 : ((fs.length : Int) + 1) = ((fs.length + 1 : Nat) : Int) := by omega
    refine bodyPost_end (v := .tuple #[]) (by simp [results, Tryd.results83, go_sem]) rfl ⟨rfl, ⟨_, ?_, unhide HF _ e7⟩, ?_⟩
    · refine (Below.heap_alloc _ _ _ ?_).trans ?_
      · simpa [World.setCell] using hBw
      · exact heap_setCell_same _ B 1108 _ _ _ (heap_setCell_same _ B _ _ _ _ (heap_setCell_same _ B _ _ _ _ (heap_setCell_same _ B _ _ _ _ (heap_setCell_same w B 1 _ _ _ (unhide HB)))))
    · exact (((((((Near.refl _ _).setCell 1 _).setCell 307 _).setCell _ _).setCell _ _).setCell 1108 _).alloc _).drew
  · rw [if_neg hf]
    have d1 : ¬ ((fs.length : Int) < 400) := by omega
    clear hB hd
    go_enter Tryd.func83, Tryd.ntmps83
    go_wp2
    refine bodyPost_end (v := .tuple #[]) (by simp [results, Tryd.results83, go_sem]) rfl ⟨rfl, ⟨_, ?_, ((unhide HD).setLong false).clear⟩, (((Near.refl _ _).setCell 1 _).setCell 307 _).alloc _⟩
    refine (Below.heap_alloc _ _ _ ?_).trans (heap_setCell_same _ B 307 _ _ _ (heap_setCell_same w B 1 _ _ _ (unhide HB)))
    simpa [World.setCell] using hBw
end Go.Proofs.YtillpfcldehfdaaDoor
