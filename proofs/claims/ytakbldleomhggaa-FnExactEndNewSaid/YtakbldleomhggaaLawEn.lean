/- The law FnExactEndNew walked: it returns true, and what lay in memory stands. -/
import Derived.Test.YtakbldleomhggaaEndNi
import Derived.Test.YtakbldleomhggaaEndMk
import Derived.Test.YtakbldleomhggaaRow6
namespace Go.Proofs.Ytakbldleomhggaa
open Go.RowKit
/-- The zero End's cells. -/
abbrev enZ : Array Value := #[.int .i64 0, .int .i64 0, .int .i64 0, .bool false, .bool false, .bool false, .int .i64 0, .int .i64 0, .int .i64 0, .bool false, .bool false, .bool false, .int .i64 0, .int .i64 0, .int .i64 0, .int .i64 0, .int .i64 0, .slice none 0 0, .slice none 0 0, .bool false, .int .i64 0, .int .i64 0, .bool false, .bool false, .bool false, .int .i64 0, .int .i64 0, .bool false, .bool false, .bool false]
/-- What the law has laid: the Config, and Ends. -/
structure InvN (w : World) (A B C : Nat) (ca cs ct : Array Value) (q : World) : Prop where
  a : q.heap[A]? = some (.cells ca 37)
  b : q.heap[B]? = some (.cells cs 50)
  c : q.heap[C]? = some (.cells ct 50)
  below : Below w.heap.size w q
theorem InvN.step {w : World} {A B C : Nat} {ca cs ct : Array Value} {q q' : World} (h : InvN w A B C ca cs ct q) (hb : Below q.heap.size q q') : InvN w A B C ca cs ct q' :=
  ⟨(hb.block _ (Array.getElem?_eq_some_iff.1 h.a).1).trans h.a, (hb.block _ (Array.getElem?_eq_some_iff.1 h.b).1).trans h.b, (hb.block _ (Array.getElem?_eq_some_iff.1 h.c).1).trans h.c, h.below.trans (hb.mono h.below.size)⟩
/-- A new End, stored whole. -/
theorem newEnd (w1 : World) (cs : Array Value) : ((w1.alloc (.cells enZ 50)).setRow w1.heap.size cs).heap[w1.heap.size]? = some (.cells cs 50) ∧ Below w1.heap.size w1 ((w1.alloc (.cells enZ 50)).setRow w1.heap.size cs) :=
  ⟨setRow_heap _ _ _ _ _ _ (heap_alloc_new w1 _), below_row ((Below.refl _ _).alloc (Nat.le_refl _) _) (Nat.le_refl _) _⟩
set_option maxHeartbeats 4000000 in
set_option maxRecDepth 100000 in
theorem lawEn (m a g : Int) (p c d : Bool) (w : World) :
    Calls Try.prog 6 #[.agg #[.int .i64 m, .int .i64 a, .int .i64 g, .bool p, .bool c, .bool d]] w fun e w' => e = .returned (.bool true) ∧ Below w.heap.size w w' := by
  obtain ⟨E, hE⟩ : ∃ E, enNew m a g p c d = E := ⟨_, rfl⟩
  obtain ⟨cs, hcs⟩ : ∃ cs, enC E (.slice none 0 0) (.slice none 0 0) = cs := ⟨_, rfl⟩
  have h30 : cs.size = 30 := by rw [← hcs]; rfl
  have h1c : cs.all (·.oneCell') = true := by rw [← hcs]; kernel_rfl
  have CT := hide fun v => toCfg m a g p c d v
  have CM : Hid (∀ v, Calls Try.prog 24 #[.agg #[.int .i64 m, .int .i64 a, .int .i64 g, .bool p, .bool c, .bool d]] v fun r w' => r = .returned (.agg cs) ∧ Below v.heap.size v w') := hide fun v => by rw [← hcs, ← hE]; exact specEndNew m a g p c d v
  have CI : Hid (∀ v, Calls Try.prog 25 #[.agg #[.int .i64 m, .int .i64 a, .int .i64 g, .bool p, .bool c, .bool d]] v fun r w' => r = .returned (.agg cs) ∧ Below v.heap.size v w') := hide fun v => by rw [← hcs, ← hE]; exact implEndNew m a g p c d v
  have CE : Hid (∀ v, Calls Try.prog 26 #[.agg cs, .agg cs] v fun r w' => r = .returned (.bool true) ∧ Below v.heap.size v w') := hide fun v => by rw [← hcs]; exact eqEndE E none none none none 0 0 0 0 [] [] v (Nat.zero_le _) (Nat.zero_le _) (holdsO_nil v none 0) (holdsO_nil v none 0) (holdsO_nil v none 0) (holdsO_nil v none 0)
  have CK : Hid (∀ v, Calls Try.prog 27 #[.agg cs, .int .i64 1] v fun r w' => r = .returned (.int .i64 1) ∧ Below v.heap.size v w') := hide fun v => by
    rw [← hcs]
    refine (markEndE E none none 0 0 [] [] 1 v (by decide) (by decide) (holdsO_nil v none 0) (holdsO_nil v none 0) (fun h => absurd rfl h)).mono ?_
    rintro r w' ⟨h1, _, _, h2⟩
    exact ⟨h1, h2.os, h2.tape, h2.output, h2.size, fun b hb => h2.block b hb (by show nb 0 _ ≠ _; rw [nb_none]; simp) (by show nb 0 _ ≠ _; rw [nb_none]; simp)⟩
  have CH : Hid (∀ v, Calls Try.prog 28 #[.agg cs, .int .i64 1] v fun r w' => r = .returned (.int .i64 1) ∧ Below v.heap.size v w') := hide fun v => by
    rw [← hcs]
    exact heldEndE E none none 0 0 0 0 1 v (by decide) (by decide) (holdsO_nil v none 0) (holdsO_nil v none 0)
  clear hcs hE
  have hr0 : (w.alloc (.cells #[.int .i64 m, .int .i64 a, .int .i64 g, .bool p, .bool c, .bool d] 37)).heap[w.heap.size]? = some (.cells #[.int .i64 m, .int .i64 a, .int .i64 g, .bool p, .bool c, .bool d] 37) := heap_alloc_last w _
  have hb0 : Below w.heap.size w (w.alloc (.cells #[.int .i64 m, .int .i64 a, .int .i64 g, .bool p, .bool c, .bool d] 37)) := (Below.refl _ _).alloc (Nat.le_refl _) _
  have HR0 := hide (And.intro hr0 hb0)
  clear hr0 hb0
  go_enter Try.func6, Try.ntmps6
  go_wp2_with fail
  refine (unhide CT _).mono ?_
  rintro e w2 ⟨rfl, hb2⟩
  have hr2 := (hb2.block w.heap.size (Array.getElem?_eq_some_iff.1 (unhide HR0).1).1).trans (unhide HR0).1
  have hB2 := (unhide HR0).2.trans (hb2.mono (unhide HR0).2.size)
  have HR2 := hide (And.intro hr2 hB2)
  clear hr2 hB2 hb2 HR0
  go_wp2_with fail
  refine (unhide CM _).mono ?_
  rintro e w3 ⟨rfl, hb3⟩
  have hr3 := (hb3.block w.heap.size (Array.getElem?_eq_some_iff.1 (unhide HR2).1).1).trans (unhide HR2).1
  have hB3 := (unhide HR2).2.trans (hb3.mono (unhide HR2).2.size)
  have HR3 := hide (And.intro hr3 hB3)
  clear hr3 hB3 hb3 HR2 CM
  obtain ⟨hE3, hbE3⟩ := newEnd w3 cs
  have hA3 := (hbE3.block w.heap.size (Array.getElem?_eq_some_iff.1 (unhide HR3).1).1).trans (unhide HR3).1
  have hB3 := (unhide HR3).2.trans (hbE3.mono (unhide HR3).2.size)
  obtain ⟨c0, c1, c2, c3, c4, c5⟩ := row6 hA3
  have HS3 : Hid (InvN w w.heap.size w3.heap.size w3.heap.size #[.int .i64 m, .int .i64 a, .int .i64 g, .bool p, .bool c, .bool d] cs cs ((w3.alloc (.cells enZ 50)).setRow w3.heap.size cs)) := hide ⟨hA3, hE3, hE3, hB3⟩
  clear hE3 hbE3 hA3 hB3 HR3
  go_wp2_with (first
    | (refine wpList_store_rowTo rfl 50 (.tmp 3) (.tmp 10) rfl rfl w3.heap.size cs rfl rfl 50 enZ (heap_alloc_new w3 _) (by rw [h30]; exact infoE) (by rw [h30]; rfl) h1c ?_))
  refine (unhide CT _).mono ?_
  rintro e w4 ⟨rfl, hb4⟩
  have HS4 := hide ((unhide HS3).step hb4)
  clear hb4 HS3 c0 c1 c2 c3 c4 c5
  go_wp2_with fail
  refine (unhide CI _).mono ?_
  rintro e w5 ⟨rfl, hb5⟩
  have HS5 := hide ((unhide HS4).step hb5)
  clear hb5 HS4
  obtain ⟨hE5, hbE5⟩ := newEnd w5 cs
  have hS5 := (unhide HS5).step hbE5
  have HS6 : Hid (InvN w w.heap.size w3.heap.size w5.heap.size #[.int .i64 m, .int .i64 a, .int .i64 g, .bool p, .bool c, .bool d] cs cs ((w5.alloc (.cells enZ 50)).setRow w5.heap.size cs)) := hide ⟨hS5.a, hS5.b, hE5, hS5.below⟩
  clear hE5 hbE5 hS5 HS5
  go_wp2_with (first
    | (refine wpList_store_rowTo rfl 50 (.tmp 4) (.tmp 13) rfl rfl w5.heap.size cs rfl rfl 50 enZ (heap_alloc_new w5 _) (by rw [h30]; exact infoE) (by rw [h30]; rfl) h1c ?_)
    | (refine wpList_load_row rfl 50 (.tmp 4) rfl w5.heap.size rfl 50 cs (0, 0) _ (unhide HS6).c Try.underlying50 rfl (by rw [h30]; exact infoE) ?_)
    | (refine wpList_load_row rfl 50 (.tmp 3) rfl w3.heap.size rfl 50 cs (0, 0) _ (unhide HS6).b Try.underlying50 rfl (by rw [h30]; exact infoE) ?_))
  refine (unhide CE _).mono ?_
  rintro e w6 ⟨rfl, hb6⟩
  have HS7 := hide ((unhide HS6).step hb6)
  clear hb6 HS6
  go_wp2_with (first
    | (refine wpList_load_row rfl 50 (.tmp 4) rfl w5.heap.size rfl 50 cs (0, 0) _ (unhide HS7).c Try.underlying50 rfl (by rw [h30]; exact infoE) ?_))
  refine (unhide CK _).mono ?_
  rintro e w7 ⟨rfl, hb7⟩
  have HS8 := hide ((unhide HS7).step hb7)
  clear hb7 HS7
  go_wp2_with (first
    | (refine wpList_load_row rfl 50 (.tmp 4) rfl w5.heap.size rfl 50 cs (0, 0) _ (unhide HS8).c Try.underlying50 rfl (by rw [h30]; exact infoE) ?_))
  refine (unhide CH _).mono ?_
  rintro e w8 ⟨rfl, hb8⟩
  have hS9 := (unhide HS8).step hb8
  obtain ⟨c0, c1, c2, c3, c4, c5⟩ := row6 hS9.a
  have HS9 := hide hS9
  clear hb8 HS8 hS9
  go_wp2_with fail
  refine (unhide CT _).mono ?_
  rintro e w9 ⟨rfl, hb9⟩
  have HS10 := hide ((unhide HS9).step hb9)
  clear hb9 HS9 c0 c1 c2 c3 c4 c5
  go_wp2_with fail
  refine (unhide CI _).mono ?_
  rintro e w10 ⟨rfl, hb10⟩
  have HS11 := hide ((unhide HS10).step hb10)
  clear hb10 HS10
  obtain ⟨hE10, hbE10⟩ := newEnd w10 cs
  have HS12 := hide (And.intro ((unhide HS11).step hbE10) hE10)
  clear hE10 hbE10 HS11
  go_wp2_with (first
    | (refine wpList_store_rowTo rfl 50 (.tmp 7) (.tmp 31) rfl rfl w10.heap.size cs rfl rfl 50 enZ (heap_alloc_new w10 _) (by rw [h30]; exact infoE) (by rw [h30]; rfl) h1c ?_)
    | (refine wpList_load_row rfl 50 (.tmp 7) rfl w10.heap.size rfl 50 cs (0, 0) _ (unhide HS12).2 Try.underlying50 rfl (by rw [h30]; exact infoE) ?_)
    | (refine wpList_load_row rfl 50 (.tmp 3) rfl w3.heap.size rfl 50 cs (0, 0) _ (unhide HS12).1.b Try.underlying50 rfl (by rw [h30]; exact infoE) ?_))
  refine (unhide CE _).mono ?_
  rintro e w11 ⟨rfl, hb11⟩
  have HS13 := hide ((unhide HS12).1.step hb11)
  clear hb11 HS12
  go_wp2_with (first
    | (refine wpList_load_row rfl 50 (.tmp 4) rfl w5.heap.size rfl 50 cs (0, 0) _ (unhide HS13).c Try.underlying50 rfl (by rw [h30]; exact infoE) ?_))
  refine (unhide CH _).mono ?_
  rintro e w12 ⟨rfl, hb12⟩
  have HS14 := hide ((unhide HS13).step hb12).below
  clear hb12 HS13
  go_wp2
  go_ret
  exact ⟨rfl, unhide HS14⟩
end Go.Proofs.Ytakbldleomhggaa
