/- The law FnExactEndHear walked: it returns true, and what lay in memory stands. -/
import Derived.Test.YtahpjlbaagkdoaaGreatDoorS46
import Derived.Test.YtahpjlbaagkdoaaGreatDoorShW
namespace Go.Proofs.YtahpjlbaagkdoaaGreatDoor
open Go.RowKit
set_option linter.unusedSimpArgs false in
set_option maxHeartbeats 32000000 in
set_option maxRecDepth 100000 in
theorem lawEh (e : En) (x1 x2 : Option Addr) (y1 y2 : Nat) (F1 F2 : List Op.Opt) (x y : Int) (t : ByteArray) (now : Int) (w : World) (l1 : F1.length ≤ maxLen) (l2 : F2.length ≤ maxLen) (lt : t.size ≤ maxLen)
  (h1 : ArgO w (.slice x1 F1.length y1) F1) (h2 : ArgO w (.slice x2 F2.length y2) F2) (hEv : EvT w) (hNx : NxT w) (hSp : SpT w) (hEt : Et w) :
  Calls Tryz.prog 4 #[.agg (enC e (.slice x1 F1.length y1) (.slice x2 F2.length y2)), .agg #[.int .i64 x, .int .i64 y, .string t], .int .i64 now] w fun r w' => r = .returned (.bool true) ∧ Below w.heap.size w w' := by
 obtain ⟨ca, hca⟩ : ∃ ca : List Value, enC e (.slice x1 F1.length y1) (.slice x2 F2.length y2) = ca.toArray := ⟨_, rfl⟩
 have la : ca.length = 30 := by rw [← List.size_toArray, ← hca]; rfl
 have hsz0 : ca.toArray.size = 30 := by rw [List.size_toArray]; exact la
 have C0 : Hid (∀ W, Below w.heap.size w W → Calls Tryz.prog 15 #[.agg ca.toArray, .int .i64 1048576] W fun r w' => ∃ z : Int, r = .returned (.int .i64 z) ∧ (z = -1 ∨ (F1.length ≤ 1048576 ∧ F2.length ≤ 1048576 ∧ ∃ m : Nat, z = (m : Int) ∧ m ≤ 1048576)) ∧ Below W.heap.size W w') :=
  hide fun W hb => by rw [← hca]; exact szEndE e x1 x2 y1 y2 F1 F2 W l1 l2 (h1.below hb) (h2.below hb)
 have CZ := hide fun (m : Nat) (hm : m ≤ 1048576) W => szPkE x y t m W lt hm
 have CK := hide fun W => toPkE x y t W
 have CT : Hid (F1.length ≤ 1048576 → F2.length ≤ 1048576 → ∀ W, Below w.heap.size w W → Calls Tryz.prog 17 #[.agg ca.toArray] W fun r w' => ∃ cl : List Value, r = .returned (.agg cl.toArray) ∧ ToX e F1 F2 W.heap.size w'.heap.size cl w' ∧ Below W.heap.size W w') :=
  hide fun k1 k2 W hb => by rw [← hca]; exact toX e x1 x2 y1 y2 F1 F2 W k1 k2 (h1.below hb) (h2.below hb)
 have CS : Hid (F1.length ≤ 1048576 → F2.length ≤ 1048576 → ∀ cl lo hi W, ToX e F1 F2 lo hi cl W → Calls Tryz.prog 14 #[.agg cl.toArray, .agg #[.int .i64 x, .int .i64 y, .string t], .int .i64 now] W fun r w' => ∃ cs, r = .returned (.agg cs) ∧ AnD (hearF e F1 F2 ⟨x, y, t⟩ now) W.heap.size w'.heap.size cs w' ∧ Below W.heap.size W w' ∧ cs.size = 33 ∧ cs.all (·.oneCell') = true) :=
  hide fun k1 k2 cl lo hi W h => by
   obtain ⟨u1, z1, u2, z2, rfl, p1, p2, _⟩ := h
   refine (sEndHear e u1 u2 z1 z2 F1 F2 ⟨x, y, t⟩ now W k1 k2 p1 p2).mono ?_
   rintro r w' hE
   obtain ⟨v1, v2, vs, vt, rfl, hE'⟩ := hE
   exact ⟨_, rfl, AnD.of ⟨v1, v2, vs, vt, rfl, hE'⟩⟩
 have CI : Hid (F1.length ≤ 1048576 → F2.length ≤ 1048576 → ∀ cl lo hi W, Below w.heap.size w W → ToX e F1 F2 lo hi cl W → Calls Tryz.prog 13 #[.agg cl.toArray, .agg #[.int .i64 x, .int .i64 y, .string t], .int .i64 now] W fun r w' => ∃ cs, r = .returned (.agg cs) ∧ AnD (hearF e F1 F2 ⟨x, y, t⟩ now) W.heap.size w'.heap.size cs w' ∧ Below W.heap.size W w' ∧ cs.size = 33 ∧ cs.all (·.oneCell') = true) :=
  hide fun k1 k2 cl lo hi W hb h => by
   obtain ⟨u1, z1, u2, z2, rfl, p1, p2, _⟩ := h
   refine (iEndHear e u1 u2 z1 z2 F1 F2 ⟨x, y, t⟩ now W k1 k2 p1 p2 (hEv.below hb) (hNx.below hb) (hSp.below hb) (hEt.below hb hEt.lt)).mono ?_
   rintro r w' hE
   obtain ⟨v1, v2, vs, vt, rfl, hE'⟩ := hE
   exact ⟨_, rfl, AnD.of ⟨v1, v2, vs, vt, rfl, hE'⟩⟩
 have hB : EoB (hearF e F1 F2 ⟨x, y, t⟩ now) := hearF_len e F1 F2 ⟨x, y, t⟩ now
 rw [hca]
 obtain ⟨A, eA⟩ : ∃ A, w.heap.size = A := ⟨_, rfl⟩
 obtain ⟨_, hA, hP, hbA⟩ := start2r w (.cells ca.toArray 51) (.cells #[.int .i64 x, .int .i64 y, .string t] 52)
 rw [eA] at hA hP
 have H0 : Hid (J1 w A ca x y t ((w.alloc (.cells ca.toArray 51)).alloc (.cells #[.int .i64 x, .int .i64 y, .string t] 52))) := hide ⟨hA, hP, hbA⟩
 have hwA : w.heap.size ≤ A := Nat.le_of_eq eA
 clear h1 h2 l1 l2 lt hA hP hbA hca hEv hNx hSp hEt
 generalize hearF e F1 F2 ⟨x, y, t⟩ now = o at *
 go_enter Tryz.func4, Tryz.ntmps4
 go_upto_region 2 with fail
 refine gen_world (J1 w A ca x y t) (unhide H0) ?_
 clear H0 eA
 intro w0 hw0
 have H1 := hide hw0
 clear hw0
 go_wp2_with (first | (refine wpList_load_row rfl 51 (.tmp 3) rfl A rfl 51 ca.toArray (0, 0) _ (unhide H1).a Tryz.underlying51 rfl (by rw [hsz0]; exact infoLE) ?_))
 refine (unhide C0 _ (unhide H1).low).mono ?_
 rintro r w1 ⟨z, rfl, hz, hb1⟩
 have H2 := hide ((unhide H1).step hb1)
 clear hb1 H1
 by_cases hz0 : z < 0
 ·go_wp2
  go_ret
  exact ⟨rfl, (unhide H2).low⟩
 obtain ⟨k1, k2, m, rfl, hm⟩ := hz.resolve_left (by omega)
 replace CT := hide (unhide CT k1 k2)
 replace CS := hide (unhide CS k1 k2)
 replace CI := hide (unhide CI k1 k2)
 replace CZ := hide (unhide CZ m hm)
 have HK := hide (And.intro k1 k2)
 clear C0 hz k1 k2 hm
 obtain ⟨c0, c1, c2⟩ := row3l (unhide H2).p
 go_wp2_with fail
 refine (unhide CZ _).mono ?_
 rintro r w2 ⟨z2, rfl, hb2⟩
 have ES := hide ((unhide H2).step hb2)
 clear hb2 H2 CZ c0 c1 c2
 by_cases hz2 : z2 < 0
 ·go_wp2
  go_ret
  exact ⟨rfl, (unhide ES).low⟩
 go_upto_region 8 with fail
 have SY : Hid (∀ z, (J1 w A ca x y t) z → (z.heap[A]? = some (.cells ca.toArray 51) ∧ z.cell? ⟨A + 1, 0, none⟩ = some (.int .i64 x) ∧ z.cell? ⟨A + 1, 1, none⟩ = some (.int .i64 y) ∧ z.cell? ⟨A + 1, 2, none⟩ = some (.string t))) := hide fun z hz => ⟨hz.a, row3l hz.p⟩
 obtain ⟨base, hbase⟩ : ∃ base, w2.heap.size = base := ⟨_, rfl⟩
 have HBS : Hid (base ≤ w2.drew.heap.size) := hide (Nat.le_of_eq hbase.symm)
 have HBS2 := hide hbase
 clear hbase
 go_cut [8] (fun v wx => ∃ bb lo hi cs, v = .pointer (some ⟨bb, 0, none⟩) ∧ Jo (J1 w A ca x y t) base o cs wx bb lo hi)
 case first =>
  have E0 := hide ((unhide ES).step (Below.refl _ _).drew)
  have FB : Hid (base ≤ w2.drew.heap.size) := hide (unhide HBS)
  refine wp_region_held_drew (S := fun z => z.heap[A]? = some (.cells ca.toArray 51) ∧ z.cell? ⟨A + 1, 0, none⟩ = some (.int .i64 x) ∧ z.cell? ⟨A + 1, 1, none⟩ = some (.int .i64 y) ∧ z.cell? ⟨A + 1, 2, none⟩ = some (.string t)) (by kernel_rfl) (unhide SY _ (unhide E0)) (fun hHeld => ?_)
  generalize w2.drew = yy at E0 FB hHeld ⊢
  refine wpAnyH_take (i := 0) (v := .agg ca.toArray) rfl (by kernel_rfl) (by kernel_rfl) (by kernel_rfl) (fun _ _ _ h => h) (yieldsIf_load_mid (by rfl) 51 (.tmp 3) rfl A 0 rfl ca _ (fun z hz => rangeRow hz.1) Tryz.underlying51 rfl (by rw [la]; exact infoLE)) (by assumption) ?_
  try simp only [Act.put, sA, sZ, sS, gA, gZ]
  refine tk 2 (v := ?va2_2) rfl ?hya2_2 ?_
  case hya2_2 => intro w hSw; (try dsimp only at hSw); go_simp; try with_reducible rfl
  try simp only [Act.put, sA, sZ, sS, gA, gZ, gS]
  refine tk 4 (v := ?va3_4) rfl ?hya3_4 ?_
  case hya3_4 => intro w hSw; (try dsimp only at hSw); go_simp; try with_reducible rfl
  try simp only [Act.put, sA, sZ, sS, gA, gZ, gS]
  refine wpAnyH_ready (rs := [1, 6]) (by kernel_rfl) (by simp) ?_
  refine AllReadyH.cons rfl (fun K hK => ?_) (AllReadyH.cons rfl (fun K hK => ?_) (AllReadyH.nil))
  ·go_simp
   refine (unhide CT _ (unhide E0).low).mono ?_
   rintro r z41 ⟨cm41, rfl, hD41, hb41⟩
   have E41 := hide ((unhide E0).step hb41)
   have F41 := hide hb41.size
   have X41 := hide hD41
   clear hb41 hD41
   go_wp2_with fail
   refine hK.out _ _ (unhide SY _ (unhide E41)) (fun _ => ?_)
   clear hK K
   try simp only [Act.put, sA, sZ, sS, gA, gZ, gS]
   refine wpAnyH_ready (rs := [3, 6]) (by kernel_rfl) (by simp) ?_
   refine AllReadyH.cons rfl (fun K hK => ?_) (AllReadyH.cons rfl (fun K hK => ?_) (AllReadyH.nil))
   ·go_simp
    refine (unhide CK _).mono ?_
    rintro r z42 ⟨rfl, hb42⟩
    have E42 := hide ((unhide E41).step hb42)
    have F42 := hide hb42.size
    have T42 := hide ((unhide X41).step hb42)
    clear hb42
    go_wp2_with fail
    refine hK.out _ _ (unhide SY _ (unhide E42)) (fun _ => ?_)
    clear hK K
    try simp only [Act.put, sA, sZ, sS, gA, gZ, gS]
    refine wpAnyH_ready (rs := [5, 6]) (by kernel_rfl) (by simp) ?_
    refine AllReadyH.cons rfl (fun K hK => ?_) (AllReadyH.cons rfl (fun K hK => ?_) (AllReadyH.nil))
    ·go_simp
     refine (unhide CS _ _ _ _ (unhide T42)).mono ?_
     rintro r z43 ⟨cs, rfl, hA43, hb43, hsz, hone⟩
     have E43 := hide ((unhide E42).step hb43)
     have F43 := hide hb43.size
     have T43 := hide ((unhide T42).step hb43)
     have A43 := hide hA43
     clear hb43 hA43
     go_wp2_with fail
     refine hK.out _ _ (unhide SY _ (unhide E43)) (fun _ => ?_)
     clear hK K
     try simp only [Act.put, sA, sZ, sS, gA, gZ, gS]
     refine r1 6 rfl (fun K hK => ?_)
     have hb44 : Below z43.heap.size z43 (z43.alloc (.cells eoZ 42)) := (Below.refl _ _).alloc (Nat.le_refl _) _
     have E44 := hide ((unhide E43).step hb44)
     have M44 := hide (heap_alloc_new z43 (.cells eoZ 42))
     have G44 : Hid ((z43.alloc (.cells eoZ 42)).heap.size = z43.heap.size + 1) := hide (by simp)
     have GB44 : Hid ((z43.alloc (.cells #[.int .i64 0, .int .i64 0, .int .i64 0, .bool false, .bool false, .bool false, .int .i64 0, .int .i64 0, .int .i64 0, .bool false, .bool false, .bool false, .int .i64 0, .int .i64 0, .int .i64 0, .int .i64 0, .int .i64 0, .slice none 0 0, .slice none 0 0, .bool false, .int .i64 0, .int .i64 0, .bool false, .bool false, .bool false, .int .i64 0, .int .i64 0, .bool false, .bool false, .bool false, .slice none 0 0, .slice none 0 0, .int .i64 0] 42)).heap.size = z43.heap.size + 1) := hide (by simp)
     have F44 := hide hb44.size
     have T44 := hide ((unhide T43).step hb44)
     have A44 := hide ((unhide A43).step hb44)
     clear hb44
     go_simp
     refine hK.out _ _ (unhide SY _ (unhide E44)) (fun _ => ?_)
     clear hK K
     try simp only [Act.put, sA, sZ, sS, gA, gZ, gS]
     refine r1 7 rfl (fun K hK => ?_)
     rw [if_pos (by rfl)]
     refine wp_store_row 42 (.tmp 8) (.tmp 30) rfl z43.heap.size cs rfl rfl 42 eoZ (unhide M44) (by rw [hsz]; exact infoEo) (by rw [hsz]; rfl) hone ?_
     have HZ : Hid (Jo (J1 w A ca x y t) base o cs ((z43.alloc (.cells eoZ 42)).setRow z43.heap.size cs) z43.heap.size z42.heap.size z43.heap.size) := hide (by
      have f41q := unhide F41
      have f42q := unhide F42
      have f43q := unhide F43
      have f44q := unhide F44
      have g44q := unhide G44
      have gb44q := unhide GB44
      have fb := unhide FB
      have hx1 := (unhide ES).low.size; have hx2 := unhide HBS2
      exact ⟨(unhide E44).sw (unhide M44) (by omega), setRow_heap (z43.alloc (.cells eoZ 42)) z43.heap.size _ cs _ _ (unhide M44), (unhide A44).sw (unhide M44), hsz, hone, by omega, by omega, by omega, by rw [setRow_size]; omega, by rw [setRow_size]; omega⟩)
     refine hK.out _ _ (unhide SY _ (unhide HZ).j) (fun _ => ?_)
     clear hK K
     try simp only [Act.put, sA, sZ, sS, gA, gZ, gS]
     refine wpAnyH_done (by kernel_rfl) ?_ _
     go_wp2_with fail
     go_meet
     exact ⟨_, _, _, cs, rfl, unhide HZ⟩
    ·have hb43 : Below z42.heap.size z42 (z42.alloc (.cells eoZ 42)) := (Below.refl _ _).alloc (Nat.le_refl _) _
     have E43 := hide ((unhide E42).step hb43)
     have M43 := hide (heap_alloc_new z42 (.cells eoZ 42))
     have G43 : Hid ((z42.alloc (.cells eoZ 42)).heap.size = z42.heap.size + 1) := hide (by simp)
     have GB43 : Hid ((z42.alloc (.cells #[.int .i64 0, .int .i64 0, .int .i64 0, .bool false, .bool false, .bool false, .int .i64 0, .int .i64 0, .int .i64 0, .bool false, .bool false, .bool false, .int .i64 0, .int .i64 0, .int .i64 0, .int .i64 0, .int .i64 0, .slice none 0 0, .slice none 0 0, .bool false, .int .i64 0, .int .i64 0, .bool false, .bool false, .bool false, .int .i64 0, .int .i64 0, .bool false, .bool false, .bool false, .slice none 0 0, .slice none 0 0, .int .i64 0] 42)).heap.size = z42.heap.size + 1) := hide (by simp)
     have F43 := hide hb43.size
     have T43 := hide ((unhide T42).step hb43)
     clear hb43
     go_simp
     refine hK.out _ _ (unhide SY _ (unhide E43)) (fun _ => ?_)
     clear hK K
     try simp only [Act.put, sA, sZ, sS, gA, gZ, gS]
     refine r1 5 rfl (fun K hK => ?_)
     go_simp
     refine (unhide CS _ _ _ _ (unhide T43)).mono ?_
     rintro r z44 ⟨cs, rfl, hA44, hb44, hsz, hone⟩
     have E44 := hide ((unhide E43).step hb44)
     have F44 := hide hb44.size
     have T44 := hide ((unhide T43).step hb44)
     have M44 := hide ((hb44.block _ (Array.getElem?_eq_some_iff.1 (unhide M43)).1).trans (unhide M43))
     have A44 := hide hA44
     clear hb44 hA44
     go_wp2_with fail
     refine hK.out _ _ (unhide SY _ (unhide E44)) (fun _ => ?_)
     clear hK K
     try simp only [Act.put, sA, sZ, sS, gA, gZ, gS]
     refine r1 7 rfl (fun K hK => ?_)
     rw [if_pos (by rfl)]
     refine wp_store_row 42 (.tmp 8) (.tmp 30) rfl z42.heap.size cs rfl rfl 42 eoZ (unhide M44) (by rw [hsz]; exact infoEo) (by rw [hsz]; rfl) hone ?_
     have HZ : Hid (Jo (J1 w A ca x y t) base o cs (z44.setRow z42.heap.size cs) z42.heap.size (z42.alloc (.cells eoZ 42)).heap.size z44.heap.size) := hide (by
      have f41q := unhide F41
      have f42q := unhide F42
      have f43q := unhide F43
      have g43q := unhide G43
      have gb43q := unhide GB43
      have f44q := unhide F44
      have fb := unhide FB
      have hx1 := (unhide ES).low.size; have hx2 := unhide HBS2
      exact ⟨(unhide E44).sw (unhide M44) (by omega), setRow_heap z44 z42.heap.size _ cs _ _ (unhide M44), (unhide A44).sw (unhide M44), hsz, hone, by omega, by omega, by omega, by rw [setRow_size]; omega, by rw [setRow_size]; omega⟩)
     refine hK.out _ _ (unhide SY _ (unhide HZ).j) (fun _ => ?_)
     clear hK K
     try simp only [Act.put, sA, sZ, sS, gA, gZ, gS]
     refine wpAnyH_done (by kernel_rfl) ?_ _
     go_wp2_with fail
     go_meet
     exact ⟨_, _, _, cs, rfl, unhide HZ⟩
   ·have hb42 : Below z41.heap.size z41 (z41.alloc (.cells eoZ 42)) := (Below.refl _ _).alloc (Nat.le_refl _) _
    have E42 := hide ((unhide E41).step hb42)
    have M42 := hide (heap_alloc_new z41 (.cells eoZ 42))
    have G42 : Hid ((z41.alloc (.cells eoZ 42)).heap.size = z41.heap.size + 1) := hide (by simp)
    have GB42 : Hid ((z41.alloc (.cells #[.int .i64 0, .int .i64 0, .int .i64 0, .bool false, .bool false, .bool false, .int .i64 0, .int .i64 0, .int .i64 0, .bool false, .bool false, .bool false, .int .i64 0, .int .i64 0, .int .i64 0, .int .i64 0, .int .i64 0, .slice none 0 0, .slice none 0 0, .bool false, .int .i64 0, .int .i64 0, .bool false, .bool false, .bool false, .int .i64 0, .int .i64 0, .bool false, .bool false, .bool false, .slice none 0 0, .slice none 0 0, .int .i64 0] 42)).heap.size = z41.heap.size + 1) := hide (by simp)
    have F42 := hide hb42.size
    have T42 := hide ((unhide X41).step hb42)
    clear hb42
    go_simp
    refine hK.out _ _ (unhide SY _ (unhide E42)) (fun _ => ?_)
    clear hK K
    try simp only [Act.put, sA, sZ, sS, gA, gZ, gS]
    refine r1 3 rfl (fun K hK => ?_)
    go_simp
    refine (unhide CK _).mono ?_
    rintro r z43 ⟨rfl, hb43⟩
    have E43 := hide ((unhide E42).step hb43)
    have F43 := hide hb43.size
    have T43 := hide ((unhide T42).step hb43)
    have M43 := hide ((hb43.block _ (Array.getElem?_eq_some_iff.1 (unhide M42)).1).trans (unhide M42))
    clear hb43
    go_wp2_with fail
    refine hK.out _ _ (unhide SY _ (unhide E43)) (fun _ => ?_)
    clear hK K
    try simp only [Act.put, sA, sZ, sS, gA, gZ, gS]
    refine r1 5 rfl (fun K hK => ?_)
    go_simp
    refine (unhide CS _ _ _ _ (unhide T43)).mono ?_
    rintro r z44 ⟨cs, rfl, hA44, hb44, hsz, hone⟩
    have E44 := hide ((unhide E43).step hb44)
    have F44 := hide hb44.size
    have T44 := hide ((unhide T43).step hb44)
    have M44 := hide ((hb44.block _ (Array.getElem?_eq_some_iff.1 (unhide M43)).1).trans (unhide M43))
    have A44 := hide hA44
    clear hb44 hA44
    go_wp2_with fail
    refine hK.out _ _ (unhide SY _ (unhide E44)) (fun _ => ?_)
    clear hK K
    try simp only [Act.put, sA, sZ, sS, gA, gZ, gS]
    refine r1 7 rfl (fun K hK => ?_)
    rw [if_pos (by rfl)]
    refine wp_store_row 42 (.tmp 8) (.tmp 30) rfl z41.heap.size cs rfl rfl 42 eoZ (unhide M44) (by rw [hsz]; exact infoEo) (by rw [hsz]; rfl) hone ?_
    have HZ : Hid (Jo (J1 w A ca x y t) base o cs (z44.setRow z41.heap.size cs) z41.heap.size z43.heap.size z44.heap.size) := hide (by
     have f41q := unhide F41
     have f42q := unhide F42
     have g42q := unhide G42
     have gb42q := unhide GB42
     have f43q := unhide F43
     have f44q := unhide F44
     have fb := unhide FB
     have hx1 := (unhide ES).low.size; have hx2 := unhide HBS2
     exact ⟨(unhide E44).sw (unhide M44) (by omega), setRow_heap z44 z41.heap.size _ cs _ _ (unhide M44), (unhide A44).sw (unhide M44), hsz, hone, by omega, by omega, by omega, by rw [setRow_size]; omega, by rw [setRow_size]; omega⟩)
    refine hK.out _ _ (unhide SY _ (unhide HZ).j) (fun _ => ?_)
    clear hK K
    try simp only [Act.put, sA, sZ, sS, gA, gZ, gS]
    refine wpAnyH_done (by kernel_rfl) ?_ _
    go_wp2_with fail
    go_meet
    exact ⟨_, _, _, cs, rfl, unhide HZ⟩
  ·have hb41 : Below yy.heap.size yy (yy.alloc (.cells eoZ 42)) := (Below.refl _ _).alloc (Nat.le_refl _) _
   have E41 := hide ((unhide E0).step hb41)
   have M41 := hide (heap_alloc_new yy (.cells eoZ 42))
   have G41 : Hid ((yy.alloc (.cells eoZ 42)).heap.size = yy.heap.size + 1) := hide (by simp)
   have GB41 : Hid ((yy.alloc (.cells #[.int .i64 0, .int .i64 0, .int .i64 0, .bool false, .bool false, .bool false, .int .i64 0, .int .i64 0, .int .i64 0, .bool false, .bool false, .bool false, .int .i64 0, .int .i64 0, .int .i64 0, .int .i64 0, .int .i64 0, .slice none 0 0, .slice none 0 0, .bool false, .int .i64 0, .int .i64 0, .bool false, .bool false, .bool false, .int .i64 0, .int .i64 0, .bool false, .bool false, .bool false, .slice none 0 0, .slice none 0 0, .int .i64 0] 42)).heap.size = yy.heap.size + 1) := hide (by simp)
   have F41 := hide hb41.size
   clear hb41
   go_simp
   refine hK.out _ _ (unhide SY _ (unhide E41)) (fun _ => ?_)
   clear hK K
   try simp only [Act.put, sA, sZ, sS, gA, gZ, gS]
   refine r1 1 rfl (fun K hK => ?_)
   go_simp
   refine (unhide CT _ (unhide E41).low).mono ?_
   rintro r z42 ⟨cm42, rfl, hD42, hb42⟩
   have E42 := hide ((unhide E41).step hb42)
   have F42 := hide hb42.size
   have M42 := hide ((hb42.block _ (Array.getElem?_eq_some_iff.1 (unhide M41)).1).trans (unhide M41))
   have X42 := hide hD42
   clear hb42 hD42
   go_wp2_with fail
   refine hK.out _ _ (unhide SY _ (unhide E42)) (fun _ => ?_)
   clear hK K
   try simp only [Act.put, sA, sZ, sS, gA, gZ, gS]
   refine r1 3 rfl (fun K hK => ?_)
   go_simp
   refine (unhide CK _).mono ?_
   rintro r z43 ⟨rfl, hb43⟩
   have E43 := hide ((unhide E42).step hb43)
   have F43 := hide hb43.size
   have T43 := hide ((unhide X42).step hb43)
   have M43 := hide ((hb43.block _ (Array.getElem?_eq_some_iff.1 (unhide M42)).1).trans (unhide M42))
   clear hb43
   go_wp2_with fail
   refine hK.out _ _ (unhide SY _ (unhide E43)) (fun _ => ?_)
   clear hK K
   try simp only [Act.put, sA, sZ, sS, gA, gZ, gS]
   refine r1 5 rfl (fun K hK => ?_)
   go_simp
   refine (unhide CS _ _ _ _ (unhide T43)).mono ?_
   rintro r z44 ⟨cs, rfl, hA44, hb44, hsz, hone⟩
   have E44 := hide ((unhide E43).step hb44)
   have F44 := hide hb44.size
   have T44 := hide ((unhide T43).step hb44)
   have M44 := hide ((hb44.block _ (Array.getElem?_eq_some_iff.1 (unhide M43)).1).trans (unhide M43))
   have A44 := hide hA44
   clear hb44 hA44
   go_wp2_with fail
   refine hK.out _ _ (unhide SY _ (unhide E44)) (fun _ => ?_)
   clear hK K
   try simp only [Act.put, sA, sZ, sS, gA, gZ, gS]
   refine r1 7 rfl (fun K hK => ?_)
   rw [if_pos (by rfl)]
   refine wp_store_row 42 (.tmp 8) (.tmp 30) rfl yy.heap.size cs rfl rfl 42 eoZ (unhide M44) (by rw [hsz]; exact infoEo) (by rw [hsz]; rfl) hone ?_
   have HZ : Hid (Jo (J1 w A ca x y t) base o cs (z44.setRow yy.heap.size cs) yy.heap.size z43.heap.size z44.heap.size) := hide (by
    have f41q := unhide F41
    have g41q := unhide G41
    have gb41q := unhide GB41
    have f42q := unhide F42
    have f43q := unhide F43
    have f44q := unhide F44
    have fb := unhide FB
    have hx1 := (unhide ES).low.size; have hx2 := unhide HBS2
    exact ⟨(unhide E44).sw (unhide M44) (by omega), setRow_heap z44 yy.heap.size _ cs _ _ (unhide M44), (unhide A44).sw (unhide M44), hsz, hone, by omega, by omega, by omega, by rw [setRow_size]; omega, by rw [setRow_size]; omega⟩)
   refine hK.out _ _ (unhide SY _ (unhide HZ).j) (fun _ => ?_)
   clear hK K
   try simp only [Act.put, sA, sZ, sS, gA, gZ, gS]
   refine wpAnyH_done (by kernel_rfl) ?_ _
   go_wp2_with fail
   go_meet
   exact ⟨_, _, _, cs, rfl, unhide HZ⟩
 case rest =>
  obtain ⟨bw, lo1, hi1, cw, hv, hJ⟩ := hcut
  subst hv
  have hb1 := hJ.b1
  have hb2 := hJ.b2
  have hb3 := hJ.b3
  have hb4 := hJ.b4
  have hb5 := hJ.b5
  have hwz := hJ.sz
  have hwa := hJ.one
  have hAb : A + 1 < base := by
   have := (Array.getElem?_eq_some_iff.1 (unhide ES).p).1
   have := unhide HBS2
   omega
  have H4 := hide hJ
  clear hJ ES HBS HBS2 SY CS hz2 hz0
  go_wp2_with (first | (refine wpList_load_row rfl 51 (.tmp 3) rfl A rfl 51 ca.toArray (0, 0) _ (unhide H4).j.a Tryz.underlying51 rfl (by rw [hsz0]; exact infoLE) ?_))
  refine (unhide CT _ (unhide H4).j.low).mono ?_
  rintro r w5 ⟨cl, rfl, hD5, hbb⟩
  have lc := hD5.len
  have hcz : cl.toArray.size = 30 := by rw [List.size_toArray]; exact lc
  have hca1 := hD5.one
  have hs5 := hbb.size
  have hn5 := setRow_heap (w5.alloc (.cells enZ 29)) w5.heap.size enZ cl.toArray 29 (0, 0) (heap_alloc_new w5 _)
  have hb6 : Below w5.heap.size w5 ((w5.alloc (.cells enZ 29)).setRow w5.heap.size cl.toArray) := below_row ((Below.refl _ _).alloc (Nat.le_refl _) _) (Nat.le_refl _) _
  have hb56 := hbb.trans (hb6.mono hbb.size)
  have hs6 : ((w5.alloc (.cells enZ 29)).setRow w5.heap.size cl.toArray).heap.size = w5.heap.size + 1 := size_put _ _ _ _
  have HS6 := hide hs6
  have ES : Hid (J2 w A ca x y t o bw lo1 hi1 cw w5.heap.size wc.heap.size w5.heap.size e F1 F2 cl ((w5.alloc (.cells enZ 29)).setRow w5.heap.size cl.toArray)) := hide ⟨(unhide H4).j.step hb56, (hb56.block _ hb4).trans (unhide H4).m, (unhide H4).d.step hb56, hn5, hD5.step hb6⟩
  clear hn5 hb6 hb56 hbb hD5 H4 hs6
  obtain ⟨S1, hS1⟩ : ∃ S1, wc.heap.size = S1 := ⟨_, rfl⟩
  rw [hS1] at hb4 hb5 hs5 ES
  clear hS1
  go_upto_region 10 with (first
   | (refine wpList_store_rowTo rfl 29 (.tmp 9) (.tmp 32) rfl rfl w5.heap.size cl.toArray rfl rfl 29 enZ (heap_alloc_new w5 _) (by rw [hcz]; exact infoE) (by rw [hcz]; rfl) hca1 ?_))
  refine gen_world (fun q => J2 w A ca x y t o bw lo1 hi1 cw w5.heap.size S1 w5.heap.size e F1 F2 cl q ∧ q.heap.size = w5.heap.size + 1) ⟨unhide ES, unhide HS6⟩ ?_
  clear ES HS6
  generalize w5.heap.size = bx at *
  intro w6 hw6
  have ES := hide hw6.1
  have HS6 := hide hw6.2
  clear hw6
  have SY : Hid (∀ z, (J2 w A ca x y t o bw lo1 hi1 cw bx S1 bx e F1 F2 cl) z → (z.heap[bx]? = some (.cells cl.toArray 29) ∧ z.cell? ⟨A + 1, 0, none⟩ = some (.int .i64 x) ∧ z.cell? ⟨A + 1, 1, none⟩ = some (.int .i64 y) ∧ z.cell? ⟨A + 1, 2, none⟩ = some (.string t))) := hide fun z hz => ⟨hz.xx, row3l hz.j.p⟩
  obtain ⟨base, hbase⟩ : ∃ base, w6.heap.size = base := ⟨_, rfl⟩
  have HBS : Hid (base ≤ w6.drew.heap.size) := hide (Nat.le_of_eq hbase.symm)
  have HBS2 := hide hbase
  clear hbase
  go_cut [10] (fun v wx => ∃ bb lo hi cs, v = .pointer (some ⟨bb, 0, none⟩) ∧ Jo (J2 w A ca x y t o bw lo1 hi1 cw bx S1 bx e F1 F2 cl) base o cs wx bb lo hi)
  case first =>
   have E0 := hide ((unhide ES).step (Below.refl _ _).drew)
   have FB : Hid (base ≤ w6.drew.heap.size) := hide (unhide HBS)
   refine wp_region_held_drew (S := fun z => z.heap[bx]? = some (.cells cl.toArray 29) ∧ z.cell? ⟨A + 1, 0, none⟩ = some (.int .i64 x) ∧ z.cell? ⟨A + 1, 1, none⟩ = some (.int .i64 y) ∧ z.cell? ⟨A + 1, 2, none⟩ = some (.string t)) (by kernel_rfl) (unhide SY _ (unhide E0)) (fun hHeld => ?_)
   generalize w6.drew = yy at E0 FB hHeld ⊢
   refine wpAnyH_take (i := 0) (v := .agg cl.toArray) rfl (by kernel_rfl) (by kernel_rfl) (by kernel_rfl) (fun _ _ _ h => h) (yieldsIf_load_mid (by rfl) 29 (.tmp 9) rfl bx 0 rfl cl _ (fun z hz => rangeRow hz.1) Tryz.underlying29 rfl (by rw [lc]; exact infoE)) (by assumption) ?_
   try simp only [Act.put, sA, sZ, sS, gA, gZ]
   refine tk 1 (v := ?vb2_1) rfl ?hyb2_1 ?_
   case hyb2_1 => intro w hSw; (try dsimp only at hSw); go_simp; try with_reducible rfl
   try simp only [Act.put, sA, sZ, sS, gA, gZ, gS]
   refine tk 3 (v := ?vb3_3) rfl ?hyb3_3 ?_
   case hyb3_3 => intro w hSw; (try dsimp only at hSw); go_simp; try with_reducible rfl
   try simp only [Act.put, sA, sZ, sS, gA, gZ, gS]
   refine wpAnyH_ready (rs := [2, 5]) (by kernel_rfl) (by simp) ?_
   refine AllReadyH.cons rfl (fun K hK => ?_) (AllReadyH.cons rfl (fun K hK => ?_) (AllReadyH.nil))
   ·go_simp
    refine (unhide CK _).mono ?_
    rintro r z41 ⟨rfl, hb41⟩
    have E41 := hide ((unhide E0).step hb41)
    have F41 := hide hb41.size
    clear hb41
    go_wp2_with fail
    refine hK.out _ _ (unhide SY _ (unhide E41)) (fun _ => ?_)
    clear hK K
    try simp only [Act.put, sA, sZ, sS, gA, gZ, gS]
    refine wpAnyH_ready (rs := [4, 5]) (by kernel_rfl) (by simp) ?_
    refine AllReadyH.cons rfl (fun K hK => ?_) (AllReadyH.cons rfl (fun K hK => ?_) (AllReadyH.nil))
    ·go_simp
     refine (unhide CI _ _ _ _ (unhide E41).low (unhide E41).tx).mono ?_
     rintro r z42 ⟨cs, rfl, hA42, hb42, hsz, hone⟩
     have E42 := hide ((unhide E41).step hb42)
     have F42 := hide hb42.size
     have A42 := hide hA42
     clear hb42 hA42
     go_wp2_with fail
     refine hK.out _ _ (unhide SY _ (unhide E42)) (fun _ => ?_)
     clear hK K
     try simp only [Act.put, sA, sZ, sS, gA, gZ, gS]
     refine r1 5 rfl (fun K hK => ?_)
     have hb43 : Below z42.heap.size z42 (z42.alloc (.cells eoZ 42)) := (Below.refl _ _).alloc (Nat.le_refl _) _
     have E43 := hide ((unhide E42).step hb43)
     have M43 := hide (heap_alloc_new z42 (.cells eoZ 42))
     have G43 : Hid ((z42.alloc (.cells eoZ 42)).heap.size = z42.heap.size + 1) := hide (by simp)
     have GB43 : Hid ((z42.alloc (.cells #[.int .i64 0, .int .i64 0, .int .i64 0, .bool false, .bool false, .bool false, .int .i64 0, .int .i64 0, .int .i64 0, .bool false, .bool false, .bool false, .int .i64 0, .int .i64 0, .int .i64 0, .int .i64 0, .int .i64 0, .slice none 0 0, .slice none 0 0, .bool false, .int .i64 0, .int .i64 0, .bool false, .bool false, .bool false, .int .i64 0, .int .i64 0, .bool false, .bool false, .bool false, .slice none 0 0, .slice none 0 0, .int .i64 0] 42)).heap.size = z42.heap.size + 1) := hide (by simp)
     have F43 := hide hb43.size
     have A43 := hide ((unhide A42).step hb43)
     clear hb43
     go_simp
     refine hK.out _ _ (unhide SY _ (unhide E43)) (fun _ => ?_)
     clear hK K
     try simp only [Act.put, sA, sZ, sS, gA, gZ, gS]
     refine r1 6 rfl (fun K hK => ?_)
     rw [if_pos (by rfl)]
     refine wp_store_row 42 (.tmp 10) (.tmp 37) rfl z42.heap.size cs rfl rfl 42 eoZ (unhide M43) (by rw [hsz]; exact infoEo) (by rw [hsz]; rfl) hone ?_
     have HZ : Hid (Jo (J2 w A ca x y t o bw lo1 hi1 cw bx S1 bx e F1 F2 cl) base o cs ((z42.alloc (.cells eoZ 42)).setRow z42.heap.size cs) z42.heap.size z41.heap.size z42.heap.size) := hide (by
      have f41q := unhide F41
      have f42q := unhide F42
      have f43q := unhide F43
      have g43q := unhide G43
      have gb43q := unhide GB43
      have fb := unhide FB
      have hx1 := (unhide ES).low.size; have hx2 := unhide HBS2; have hx3 := (Array.getElem?_eq_some_iff.1 (unhide ES).m).1
      exact ⟨(unhide E43).sw (unhide M43) ⟨by omega, by omega⟩, setRow_heap (z42.alloc (.cells eoZ 42)) z42.heap.size _ cs _ _ (unhide M43), (unhide A43).sw (unhide M43), hsz, hone, by omega, by omega, by omega, by rw [setRow_size]; omega, by rw [setRow_size]; omega⟩)
     refine hK.out _ _ (unhide SY _ (unhide HZ).j) (fun _ => ?_)
     clear hK K
     try simp only [Act.put, sA, sZ, sS, gA, gZ, gS]
     refine wpAnyH_done (by kernel_rfl) ?_ _
     go_wp2_with fail
     go_meet
     exact ⟨_, _, _, cs, rfl, unhide HZ⟩
    ·have hb42 : Below z41.heap.size z41 (z41.alloc (.cells eoZ 42)) := (Below.refl _ _).alloc (Nat.le_refl _) _
     have E42 := hide ((unhide E41).step hb42)
     have M42 := hide (heap_alloc_new z41 (.cells eoZ 42))
     have G42 : Hid ((z41.alloc (.cells eoZ 42)).heap.size = z41.heap.size + 1) := hide (by simp)
     have GB42 : Hid ((z41.alloc (.cells #[.int .i64 0, .int .i64 0, .int .i64 0, .bool false, .bool false, .bool false, .int .i64 0, .int .i64 0, .int .i64 0, .bool false, .bool false, .bool false, .int .i64 0, .int .i64 0, .int .i64 0, .int .i64 0, .int .i64 0, .slice none 0 0, .slice none 0 0, .bool false, .int .i64 0, .int .i64 0, .bool false, .bool false, .bool false, .int .i64 0, .int .i64 0, .bool false, .bool false, .bool false, .slice none 0 0, .slice none 0 0, .int .i64 0] 42)).heap.size = z41.heap.size + 1) := hide (by simp)
     have F42 := hide hb42.size
     clear hb42
     go_simp
     refine hK.out _ _ (unhide SY _ (unhide E42)) (fun _ => ?_)
     clear hK K
     try simp only [Act.put, sA, sZ, sS, gA, gZ, gS]
     refine r1 4 rfl (fun K hK => ?_)
     go_simp
     refine (unhide CI _ _ _ _ (unhide E42).low (unhide E42).tx).mono ?_
     rintro r z43 ⟨cs, rfl, hA43, hb43, hsz, hone⟩
     have E43 := hide ((unhide E42).step hb43)
     have F43 := hide hb43.size
     have M43 := hide ((hb43.block _ (Array.getElem?_eq_some_iff.1 (unhide M42)).1).trans (unhide M42))
     have A43 := hide hA43
     clear hb43 hA43
     go_wp2_with fail
     refine hK.out _ _ (unhide SY _ (unhide E43)) (fun _ => ?_)
     clear hK K
     try simp only [Act.put, sA, sZ, sS, gA, gZ, gS]
     refine r1 6 rfl (fun K hK => ?_)
     rw [if_pos (by rfl)]
     refine wp_store_row 42 (.tmp 10) (.tmp 37) rfl z41.heap.size cs rfl rfl 42 eoZ (unhide M43) (by rw [hsz]; exact infoEo) (by rw [hsz]; rfl) hone ?_
     have HZ : Hid (Jo (J2 w A ca x y t o bw lo1 hi1 cw bx S1 bx e F1 F2 cl) base o cs (z43.setRow z41.heap.size cs) z41.heap.size (z41.alloc (.cells eoZ 42)).heap.size z43.heap.size) := hide (by
      have f41q := unhide F41
      have f42q := unhide F42
      have g42q := unhide G42
      have gb42q := unhide GB42
      have f43q := unhide F43
      have fb := unhide FB
      have hx1 := (unhide ES).low.size; have hx2 := unhide HBS2; have hx3 := (Array.getElem?_eq_some_iff.1 (unhide ES).m).1
      exact ⟨(unhide E43).sw (unhide M43) ⟨by omega, by omega⟩, setRow_heap z43 z41.heap.size _ cs _ _ (unhide M43), (unhide A43).sw (unhide M43), hsz, hone, by omega, by omega, by omega, by rw [setRow_size]; omega, by rw [setRow_size]; omega⟩)
     refine hK.out _ _ (unhide SY _ (unhide HZ).j) (fun _ => ?_)
     clear hK K
     try simp only [Act.put, sA, sZ, sS, gA, gZ, gS]
     refine wpAnyH_done (by kernel_rfl) ?_ _
     go_wp2_with fail
     go_meet
     exact ⟨_, _, _, cs, rfl, unhide HZ⟩
   ·have hb41 : Below yy.heap.size yy (yy.alloc (.cells eoZ 42)) := (Below.refl _ _).alloc (Nat.le_refl _) _
    have E41 := hide ((unhide E0).step hb41)
    have M41 := hide (heap_alloc_new yy (.cells eoZ 42))
    have G41 : Hid ((yy.alloc (.cells eoZ 42)).heap.size = yy.heap.size + 1) := hide (by simp)
    have GB41 : Hid ((yy.alloc (.cells #[.int .i64 0, .int .i64 0, .int .i64 0, .bool false, .bool false, .bool false, .int .i64 0, .int .i64 0, .int .i64 0, .bool false, .bool false, .bool false, .int .i64 0, .int .i64 0, .int .i64 0, .int .i64 0, .int .i64 0, .slice none 0 0, .slice none 0 0, .bool false, .int .i64 0, .int .i64 0, .bool false, .bool false, .bool false, .int .i64 0, .int .i64 0, .bool false, .bool false, .bool false, .slice none 0 0, .slice none 0 0, .int .i64 0] 42)).heap.size = yy.heap.size + 1) := hide (by simp)
    have F41 := hide hb41.size
    clear hb41
    go_simp
    refine hK.out _ _ (unhide SY _ (unhide E41)) (fun _ => ?_)
    clear hK K
    try simp only [Act.put, sA, sZ, sS, gA, gZ, gS]
    refine r1 2 rfl (fun K hK => ?_)
    go_simp
    refine (unhide CK _).mono ?_
    rintro r z42 ⟨rfl, hb42⟩
    have E42 := hide ((unhide E41).step hb42)
    have F42 := hide hb42.size
    have M42 := hide ((hb42.block _ (Array.getElem?_eq_some_iff.1 (unhide M41)).1).trans (unhide M41))
    clear hb42
    go_wp2_with fail
    refine hK.out _ _ (unhide SY _ (unhide E42)) (fun _ => ?_)
    clear hK K
    try simp only [Act.put, sA, sZ, sS, gA, gZ, gS]
    refine r1 4 rfl (fun K hK => ?_)
    go_simp
    refine (unhide CI _ _ _ _ (unhide E42).low (unhide E42).tx).mono ?_
    rintro r z43 ⟨cs, rfl, hA43, hb43, hsz, hone⟩
    have E43 := hide ((unhide E42).step hb43)
    have F43 := hide hb43.size
    have M43 := hide ((hb43.block _ (Array.getElem?_eq_some_iff.1 (unhide M42)).1).trans (unhide M42))
    have A43 := hide hA43
    clear hb43 hA43
    go_wp2_with fail
    refine hK.out _ _ (unhide SY _ (unhide E43)) (fun _ => ?_)
    clear hK K
    try simp only [Act.put, sA, sZ, sS, gA, gZ, gS]
    refine r1 6 rfl (fun K hK => ?_)
    rw [if_pos (by rfl)]
    refine wp_store_row 42 (.tmp 10) (.tmp 37) rfl yy.heap.size cs rfl rfl 42 eoZ (unhide M43) (by rw [hsz]; exact infoEo) (by rw [hsz]; rfl) hone ?_
    have HZ : Hid (Jo (J2 w A ca x y t o bw lo1 hi1 cw bx S1 bx e F1 F2 cl) base o cs (z43.setRow yy.heap.size cs) yy.heap.size z42.heap.size z43.heap.size) := hide (by
     have f41q := unhide F41
     have g41q := unhide G41
     have gb41q := unhide GB41
     have f42q := unhide F42
     have f43q := unhide F43
     have fb := unhide FB
     have hx1 := (unhide ES).low.size; have hx2 := unhide HBS2; have hx3 := (Array.getElem?_eq_some_iff.1 (unhide ES).m).1
     exact ⟨(unhide E43).sw (unhide M43) ⟨by omega, by omega⟩, setRow_heap z43 yy.heap.size _ cs _ _ (unhide M43), (unhide A43).sw (unhide M43), hsz, hone, by omega, by omega, by omega, by rw [setRow_size]; omega, by rw [setRow_size]; omega⟩)
    refine hK.out _ _ (unhide SY _ (unhide HZ).j) (fun _ => ?_)
    clear hK K
    try simp only [Act.put, sA, sZ, sS, gA, gZ, gS]
    refine wpAnyH_done (by kernel_rfl) ?_ _
    go_wp2_with fail
    go_meet
    exact ⟨_, _, _, cs, rfl, unhide HZ⟩
  case rest =>
   obtain ⟨bg, lo3, hi3, cg, hv, hJ⟩ := hcut
   subst hv
   have hg1 := hJ.b1
   have hg2 := hJ.b2
   have hg3 := hJ.b3
   have hg4 := hJ.b4
   have hg5 := hJ.b5
   have hgz := hJ.sz
   have hga := hJ.one
   have hbx1 : base = bx + 1 := (unhide HBS2).symm.trans (unhide HS6)
   have HI := hide hJ
   clear hJ ES HBS HBS2 HS6 SY
   go_wp2_with (first
    | (refine wpList_load_row rfl 42 (.tmp 10) rfl bg rfl 42 cg (0, 0) _ (unhide HI).m Tryz.underlying42 rfl (by rw [hgz]; exact infoEo) ?_)
    | (refine wpList_load_row rfl 42 (.tmp 8) rfl bw rfl 42 cw (0, 0) _ (unhide HI).j.m Tryz.underlying42 rfl (by rw [hwz]; exact infoEo) ?_))
   refine (eqD hB (unhide HI).d (unhide HI).j.d).mono ?_
   rintro r w7 ⟨rfl, hb⟩
   have HI7 := hide (And.intro ((unhide HI).j.step hb) (And.intro ((hb.block _ hg4).trans (unhide HI).m) ((unhide HI).d.step hb)))
   clear hb HI
   go_upto_region 13 with fail
   have qa := (unhide HI7).1.j.a
   have qx := (unhide HI7).1.xx
   have HQ := hide (And.intro ((unhide HI7).1.step (Below.refl _ _).drew) (And.intro (show w7.drew.heap[bg]? = some (.cells cg 42) from (unhide HI7).2.1) ((unhide HI7).2.2.step (Below.refl _ _).drew)))
   clear HI7
   refine wp_region_held_drew (S := fun z => z.heap[A]? = some (.cells ca.toArray 51) ∧ z.heap[bx]? = some (.cells cl.toArray 29)) (by kernel_rfl) ⟨qa, qx⟩ (fun hHeld => ?_)
   refine wpAnyH_take (i := 0) (v := .agg cl.toArray) rfl (by kernel_rfl) (by kernel_rfl) (by kernel_rfl) (fun _ _ _ h => h) (yieldsIf_load_mid (by rfl) 29 (.tmp 9) rfl bx 0 rfl cl _ (fun z hz => rangeRow hz.2) Tryz.underlying29 rfl (by rw [lc]; exact infoE)) (by assumption) ?_
   try simp only [Act.put, sA, sZ, sS, gA, gZ]
   refine wpAnyH_take (i := 1) (v := .agg ca.toArray) rfl (by kernel_rfl) (by kernel_rfl) (by kernel_rfl) (fun _ _ _ h => h) (yieldsIf_load_mid (by rfl) 51 (.tmp 3) rfl A 0 rfl ca _ (fun z hz => rangeRow hz.1) Tryz.underlying51 rfl (by rw [la]; exact infoLE)) (by assumption) ?_
   try simp only [Act.put, List.setIfInBounds_toArray, List.getElem_toArray]
   refine r1 2 rfl (fun K hK => ?_)
   go_simp
   refine (unhide CT _ (unhide HQ).1.low).mono ?_
   rintro r w8 ⟨cm, rfl, hD8, hb8⟩
   have hbgd : bg < w7.drew.heap.size := (Array.getElem?_eq_some_iff.1 (unhide HQ).2.1).1
   have HQ8 := hide (And.intro ((unhide HQ).1.step hb8) (And.intro ((hb8.block _ hbgd).trans (unhide HQ).2.1) (And.intro ((unhide HQ).2.2.step hb8) hD8)))
   clear hb8 hD8 HQ hbgd
   go_wp2_with fail
   refine hK.out _ _ ⟨(unhide HQ8).1.j.a, (unhide HQ8).1.xx⟩ (fun _ => ?_)
   clear hK K
   try simp only [Act.put, sA, sZ, sS, gA, gZ]
   refine r1 3 rfl (fun K hK => ?_)
   go_simp
   refine (eqX (unhide HK).1 (unhide HK).2 (unhide HQ8).1.tx (unhide HQ8).2.2.2).mono ?_
   rintro r w9 ⟨rfl, hb9⟩
   have HQ9 := hide (And.intro ((unhide HQ8).1.step hb9) (And.intro ((hb9.block _ (Array.getElem?_eq_some_iff.1 (unhide HQ8).2.1).1).trans (unhide HQ8).2.1) ((unhide HQ8).2.2.1.step hb9)))
   clear hb9 HQ8
   go_wp2_with fail
   refine hK.out _ _ ⟨(unhide HQ9).1.j.a, (unhide HQ9).1.xx⟩ (fun _ => ?_)
   clear hK K
   refine tk 4 (v := ?v4) rfl ?hy4 ?_
   case hy4 => intro w hSw; (try dsimp only at hSw); go_simp; try with_reducible rfl
   try simp only [Act.put, List.setIfInBounds_toArray, List.getElem_toArray]
   refine wpAnyH_done (by kernel_rfl) ?_ _
   clear qa qx hHeld
   go_wp2_with (first | (refine wpList_load_row rfl 29 (.tmp 9) rfl bx rfl 29 cl.toArray (0, 0) _ (unhide HQ9).1.xx Tryz.underlying29 rfl (by rw [hcz]; exact infoE) ?_))
   refine (markX (unhide HK).1 (unhide HK).2 (unhide HQ9).1.tx).mono ?_
   rintro r w10 ⟨⟨km, rfl⟩, hR⟩
   have hbgL := (Array.getElem?_eq_some_iff.1 (unhide HQ9).2.1).1
   have hbwL := (Array.getElem?_eq_some_iff.1 (unhide HQ9).1.m).1
   have HR10 : Hid (J1 w A ca x y t w10 ∧ w10.heap[bw]? = some (.cells cw 42) ∧ AnD o lo1 hi1 cw w10 ∧ w10.heap[bg]? = some (.cells cg 42) ∧ AnD o lo3 hi3 cg w10) := hide ⟨(unhide HQ9).1.j.rg hR (by omega) (by omega), (hR.block _ hbwL (fun e => by omega)).trans (unhide HQ9).1.m, (unhide HQ9).1.d.rg hR (Or.inl (by omega)), (hR.block _ hbgL (fun e => by omega)).trans (unhide HQ9).2.1, (unhide HQ9).2.2.rg hR (Or.inr (by omega))⟩
   have dk : ¬ ((km : Int) < 0) := by omega
   clear hR HQ9 hbgL hbwL
   go_wp2_with (first
    | (refine load_rowG (by rfl) (.agg cg) (fun K hk => wp_load_row 42 (.tmp 10) rfl bg rfl 42 cg (0, 0) _ (unhide HR10).2.2.2.1 Tryz.underlying42 rfl (by rw [hgz]; exact infoEo) hk) ?_)
    | (refine load_rowG (by rfl) (.agg cw) (fun K hk => wp_load_row 42 (.tmp 8) rfl bw rfl 42 cw (0, 0) _ (unhide HR10).2.1 Tryz.underlying42 rfl (by rw [hwz]; exact infoEo) hk) ?_))
   refine (eqD hB (unhide HR10).2.2.2.2 (unhide HR10).2.2.1).mono ?_
   rintro r w11 ⟨rfl, hb⟩
   have HR11 : Hid (J1 w A ca x y t w11 ∧ w11.heap[bw]? = some (.cells cw 42) ∧ AnD o lo1 hi1 cw w11 ∧ w11.heap[bg]? = some (.cells cg 42) ∧ AnD o lo3 hi3 cg w11) := hide ⟨(unhide HR10).1.step hb, (hb.block _ (Array.getElem?_eq_some_iff.1 (unhide HR10).2.1).1).trans (unhide HR10).2.1, (unhide HR10).2.2.1.step hb, (hb.block _ (Array.getElem?_eq_some_iff.1 (unhide HR10).2.2.2.1).1).trans (unhide HR10).2.2.2.1, (unhide HR10).2.2.2.2.step hb⟩
   clear hb HR10 dk
   have CM := hide fun W (h : AnD o lo3 hi3 cg W) => markD hB h
   have CH := hide fun W (h : MkD o cg W) => heldD hB h
   obtain ⟨K, hK⟩ : ∃ K : Nat, 1 + 2 * o.F1.length + 2 * o.F2.length + 3 * o.sn.length + o.tl.length = K := ⟨_, rfl⟩
   rw [hK] at CM CH
   have dK : ¬ ((K : Int) < 0) := by omega
   clear hK
   go_wp2_with (first | (refine wpList_load_row rfl 42 (.tmp 10) rfl bg rfl 42 cg (0, 0) _ (unhide HR11).2.2.2.1 Tryz.underlying42 rfl (by rw [hgz]; exact infoEo) ?_))
   refine (unhide CM _ (unhide HR11).2.2.2.2).mono ?_
   rintro r w12 ⟨rfl, hM, hR⟩
   have hbgL := (Array.getElem?_eq_some_iff.1 (unhide HR11).2.2.2.1).1
   have hbwL := (Array.getElem?_eq_some_iff.1 (unhide HR11).2.1).1
   have HR12 : Hid (J3 w A ca x y t o bw lo1 hi1 cw bg cg w12) := hide ⟨(unhide HR11).1.rg hR (by omega) (by omega), (hR.block _ hbwL (fun e => by omega)).trans (unhide HR11).2.1, (unhide HR11).2.2.1.rg hR (Or.inl (by omega)), (hR.block _ hbgL (fun e => by omega)).trans (unhide HR11).2.2.2.1, hM⟩
   clear hM hR HR11 hbgL hbwL CM
   go_wp2_with (first | (refine wpList_load_row rfl 42 (.tmp 10) rfl bg rfl 42 cg (0, 0) _ (unhide HR12).g Tryz.underlying42 rfl (by rw [hgz]; exact infoEo) ?_))
   refine (unhide CH _ (unhide HR12).k).mono ?_
   rintro r w13 ⟨rfl, hb⟩
   have ES := hide ((unhide HR12).step hb)
   clear hb HR12
   have hbgS := (Array.getElem?_eq_some_iff.1 (unhide ES).g).1
   have hbwS := (Array.getElem?_eq_some_iff.1 (unhide ES).m).1
   have HBX := hide (And.intro hbx1 (And.intro hs5 (And.intro hAb hwA)))
   clear hbx1 hs5 hb1 hb2 hb3 hb4 hb5 hg1 hg2 hg3 hg4 hg5 hAb
   generalize base = base0 at *
   go_upto_region 27 with fail
   have SY : Hid (∀ z, (J3 w A ca x y t o bw lo1 hi1 cw bg cg) z → (z.heap[A]? = some (.cells ca.toArray 51) ∧ z.cell? ⟨A + 1, 0, none⟩ = some (.int .i64 x) ∧ z.cell? ⟨A + 1, 1, none⟩ = some (.int .i64 y) ∧ z.cell? ⟨A + 1, 2, none⟩ = some (.string t))) := hide fun z hz => ⟨hz.j.a, row3l hz.j.p⟩
   obtain ⟨base, hbase⟩ : ∃ base, w13.heap.size = base := ⟨_, rfl⟩
   have HBS : Hid (base ≤ w13.drew.heap.size) := hide (Nat.le_of_eq hbase.symm)
   have HBS2 := hide hbase
   clear hbase
   go_cut [14] (fun v wx => ∃ bb lo hi cs, v = .pointer (some ⟨bb, 0, none⟩) ∧ Jo (J3 w A ca x y t o bw lo1 hi1 cw bg cg) base o cs wx bb lo hi)
   case first =>
    have E0 := hide ((unhide ES).step (Below.refl _ _).drew)
    have FB : Hid (base ≤ w13.drew.heap.size) := hide (unhide HBS)
    refine wp_region_held_drew (S := fun z => z.heap[A]? = some (.cells ca.toArray 51) ∧ z.cell? ⟨A + 1, 0, none⟩ = some (.int .i64 x) ∧ z.cell? ⟨A + 1, 1, none⟩ = some (.int .i64 y) ∧ z.cell? ⟨A + 1, 2, none⟩ = some (.string t)) (by kernel_rfl) (unhide SY _ (unhide E0)) (fun hHeld => ?_)
    generalize w13.drew = yy at E0 FB hHeld ⊢
    refine wpAnyH_take (i := 0) (v := .agg ca.toArray) rfl (by kernel_rfl) (by kernel_rfl) (by kernel_rfl) (fun _ _ _ h => h) (yieldsIf_load_mid (by rfl) 51 (.tmp 3) rfl A 0 rfl ca _ (fun z hz => rangeRow hz.1) Tryz.underlying51 rfl (by rw [la]; exact infoLE)) (by assumption) ?_
    try simp only [Act.put, sA, sZ, sS, gA, gZ]
    refine tk 2 (v := ?vc2_2) rfl ?hyc2_2 ?_
    case hyc2_2 => intro w hSw; (try dsimp only at hSw); go_simp; try with_reducible rfl
    try simp only [Act.put, sA, sZ, sS, gA, gZ, gS]
    refine tk 4 (v := ?vc3_4) rfl ?hyc3_4 ?_
    case hyc3_4 => intro w hSw; (try dsimp only at hSw); go_simp; try with_reducible rfl
    try simp only [Act.put, sA, sZ, sS, gA, gZ, gS]
    refine wpAnyH_ready (rs := [1, 6]) (by kernel_rfl) (by simp) ?_
    refine AllReadyH.cons rfl (fun K hK => ?_) (AllReadyH.cons rfl (fun K hK => ?_) (AllReadyH.nil))
    ·go_simp
     refine (unhide CT _ (unhide E0).low).mono ?_
     rintro r z41 ⟨cm41, rfl, hD41, hb41⟩
     have E41 := hide ((unhide E0).step hb41)
     have F41 := hide hb41.size
     have X41 := hide hD41
     clear hb41 hD41
     go_wp2_with fail
     refine hK.out _ _ (unhide SY _ (unhide E41)) (fun _ => ?_)
     clear hK K
     try simp only [Act.put, sA, sZ, sS, gA, gZ, gS]
     refine wpAnyH_ready (rs := [3, 6]) (by kernel_rfl) (by simp) ?_
     refine AllReadyH.cons rfl (fun K hK => ?_) (AllReadyH.cons rfl (fun K hK => ?_) (AllReadyH.nil))
     ·go_simp
      refine (unhide CK _).mono ?_
      rintro r z42 ⟨rfl, hb42⟩
      have E42 := hide ((unhide E41).step hb42)
      have F42 := hide hb42.size
      have T42 := hide ((unhide X41).step hb42)
      clear hb42
      go_wp2_with fail
      refine hK.out _ _ (unhide SY _ (unhide E42)) (fun _ => ?_)
      clear hK K
      try simp only [Act.put, sA, sZ, sS, gA, gZ, gS]
      refine wpAnyH_ready (rs := [5, 6]) (by kernel_rfl) (by simp) ?_
      refine AllReadyH.cons rfl (fun K hK => ?_) (AllReadyH.cons rfl (fun K hK => ?_) (AllReadyH.nil))
      ·go_simp
       refine (unhide CI _ _ _ _ (unhide E42).low (unhide T42)).mono ?_
       rintro r z43 ⟨cs, rfl, hA43, hb43, hsz, hone⟩
       have E43 := hide ((unhide E42).step hb43)
       have F43 := hide hb43.size
       have T43 := hide ((unhide T42).step hb43)
       have A43 := hide hA43
       clear hb43 hA43
       go_wp2_with fail
       refine hK.out _ _ (unhide SY _ (unhide E43)) (fun _ => ?_)
       clear hK K
       try simp only [Act.put, sA, sZ, sS, gA, gZ, gS]
       refine r1 6 rfl (fun K hK => ?_)
       have hb44 : Below z43.heap.size z43 (z43.alloc (.cells eoZ 42)) := (Below.refl _ _).alloc (Nat.le_refl _) _
       have E44 := hide ((unhide E43).step hb44)
       have M44 := hide (heap_alloc_new z43 (.cells eoZ 42))
       have G44 : Hid ((z43.alloc (.cells eoZ 42)).heap.size = z43.heap.size + 1) := hide (by simp)
       have GB44 : Hid ((z43.alloc (.cells #[.int .i64 0, .int .i64 0, .int .i64 0, .bool false, .bool false, .bool false, .int .i64 0, .int .i64 0, .int .i64 0, .bool false, .bool false, .bool false, .int .i64 0, .int .i64 0, .int .i64 0, .int .i64 0, .int .i64 0, .slice none 0 0, .slice none 0 0, .bool false, .int .i64 0, .int .i64 0, .bool false, .bool false, .bool false, .int .i64 0, .int .i64 0, .bool false, .bool false, .bool false, .slice none 0 0, .slice none 0 0, .int .i64 0] 42)).heap.size = z43.heap.size + 1) := hide (by simp)
       have F44 := hide hb44.size
       have T44 := hide ((unhide T43).step hb44)
       have A44 := hide ((unhide A43).step hb44)
       clear hb44
       go_simp
       refine hK.out _ _ (unhide SY _ (unhide E44)) (fun _ => ?_)
       clear hK K
       try simp only [Act.put, sA, sZ, sS, gA, gZ, gS]
       refine r1 7 rfl (fun K hK => ?_)
       rw [if_pos (by rfl)]
       refine wp_store_row 42 (.tmp 14) (.tmp 74) rfl z43.heap.size cs rfl rfl 42 eoZ (unhide M44) (by rw [hsz]; exact infoEo) (by rw [hsz]; rfl) hone ?_
       have HZ : Hid (Jo (J3 w A ca x y t o bw lo1 hi1 cw bg cg) base o cs ((z43.alloc (.cells eoZ 42)).setRow z43.heap.size cs) z43.heap.size z42.heap.size z43.heap.size) := hide (by
        have f41q := unhide F41
        have f42q := unhide F42
        have f43q := unhide F43
        have f44q := unhide F44
        have g44q := unhide G44
        have gb44q := unhide GB44
        have fb := unhide FB
        have hx1 := (unhide ES).low.size; have hx2 := unhide HBS2
        exact ⟨(unhide E44).sw (unhide M44) ⟨by omega, by omega, by omega⟩, setRow_heap (z43.alloc (.cells eoZ 42)) z43.heap.size _ cs _ _ (unhide M44), (unhide A44).sw (unhide M44), hsz, hone, by omega, by omega, by omega, by rw [setRow_size]; omega, by rw [setRow_size]; omega⟩)
       refine hK.out _ _ (unhide SY _ (unhide HZ).j) (fun _ => ?_)
       clear hK K
       try simp only [Act.put, sA, sZ, sS, gA, gZ, gS]
       refine wpAnyH_done (by kernel_rfl) ?_ _
       go_wp2_with fail
       go_meet
       exact ⟨_, _, _, cs, rfl, unhide HZ⟩
      ·have hb43 : Below z42.heap.size z42 (z42.alloc (.cells eoZ 42)) := (Below.refl _ _).alloc (Nat.le_refl _) _
       have E43 := hide ((unhide E42).step hb43)
       have M43 := hide (heap_alloc_new z42 (.cells eoZ 42))
       have G43 : Hid ((z42.alloc (.cells eoZ 42)).heap.size = z42.heap.size + 1) := hide (by simp)
       have GB43 : Hid ((z42.alloc (.cells #[.int .i64 0, .int .i64 0, .int .i64 0, .bool false, .bool false, .bool false, .int .i64 0, .int .i64 0, .int .i64 0, .bool false, .bool false, .bool false, .int .i64 0, .int .i64 0, .int .i64 0, .int .i64 0, .int .i64 0, .slice none 0 0, .slice none 0 0, .bool false, .int .i64 0, .int .i64 0, .bool false, .bool false, .bool false, .int .i64 0, .int .i64 0, .bool false, .bool false, .bool false, .slice none 0 0, .slice none 0 0, .int .i64 0] 42)).heap.size = z42.heap.size + 1) := hide (by simp)
       have F43 := hide hb43.size
       have T43 := hide ((unhide T42).step hb43)
       clear hb43
       go_simp
       refine hK.out _ _ (unhide SY _ (unhide E43)) (fun _ => ?_)
       clear hK K
       try simp only [Act.put, sA, sZ, sS, gA, gZ, gS]
       refine r1 5 rfl (fun K hK => ?_)
       go_simp
       refine (unhide CI _ _ _ _ (unhide E43).low (unhide T43)).mono ?_
       rintro r z44 ⟨cs, rfl, hA44, hb44, hsz, hone⟩
       have E44 := hide ((unhide E43).step hb44)
       have F44 := hide hb44.size
       have T44 := hide ((unhide T43).step hb44)
       have M44 := hide ((hb44.block _ (Array.getElem?_eq_some_iff.1 (unhide M43)).1).trans (unhide M43))
       have A44 := hide hA44
       clear hb44 hA44
       go_wp2_with fail
       refine hK.out _ _ (unhide SY _ (unhide E44)) (fun _ => ?_)
       clear hK K
       try simp only [Act.put, sA, sZ, sS, gA, gZ, gS]
       refine r1 7 rfl (fun K hK => ?_)
       rw [if_pos (by rfl)]
       refine wp_store_row 42 (.tmp 14) (.tmp 74) rfl z42.heap.size cs rfl rfl 42 eoZ (unhide M44) (by rw [hsz]; exact infoEo) (by rw [hsz]; rfl) hone ?_
       have HZ : Hid (Jo (J3 w A ca x y t o bw lo1 hi1 cw bg cg) base o cs (z44.setRow z42.heap.size cs) z42.heap.size (z42.alloc (.cells eoZ 42)).heap.size z44.heap.size) := hide (by
        have f41q := unhide F41
        have f42q := unhide F42
        have f43q := unhide F43
        have g43q := unhide G43
        have gb43q := unhide GB43
        have f44q := unhide F44
        have fb := unhide FB
        have hx1 := (unhide ES).low.size; have hx2 := unhide HBS2
        exact ⟨(unhide E44).sw (unhide M44) ⟨by omega, by omega, by omega⟩, setRow_heap z44 z42.heap.size _ cs _ _ (unhide M44), (unhide A44).sw (unhide M44), hsz, hone, by omega, by omega, by omega, by rw [setRow_size]; omega, by rw [setRow_size]; omega⟩)
       refine hK.out _ _ (unhide SY _ (unhide HZ).j) (fun _ => ?_)
       clear hK K
       try simp only [Act.put, sA, sZ, sS, gA, gZ, gS]
       refine wpAnyH_done (by kernel_rfl) ?_ _
       go_wp2_with fail
       go_meet
       exact ⟨_, _, _, cs, rfl, unhide HZ⟩
     ·have hb42 : Below z41.heap.size z41 (z41.alloc (.cells eoZ 42)) := (Below.refl _ _).alloc (Nat.le_refl _) _
      have E42 := hide ((unhide E41).step hb42)
      have M42 := hide (heap_alloc_new z41 (.cells eoZ 42))
      have G42 : Hid ((z41.alloc (.cells eoZ 42)).heap.size = z41.heap.size + 1) := hide (by simp)
      have GB42 : Hid ((z41.alloc (.cells #[.int .i64 0, .int .i64 0, .int .i64 0, .bool false, .bool false, .bool false, .int .i64 0, .int .i64 0, .int .i64 0, .bool false, .bool false, .bool false, .int .i64 0, .int .i64 0, .int .i64 0, .int .i64 0, .int .i64 0, .slice none 0 0, .slice none 0 0, .bool false, .int .i64 0, .int .i64 0, .bool false, .bool false, .bool false, .int .i64 0, .int .i64 0, .bool false, .bool false, .bool false, .slice none 0 0, .slice none 0 0, .int .i64 0] 42)).heap.size = z41.heap.size + 1) := hide (by simp)
      have F42 := hide hb42.size
      have T42 := hide ((unhide X41).step hb42)
      clear hb42
      go_simp
      refine hK.out _ _ (unhide SY _ (unhide E42)) (fun _ => ?_)
      clear hK K
      try simp only [Act.put, sA, sZ, sS, gA, gZ, gS]
      refine r1 3 rfl (fun K hK => ?_)
      go_simp
      refine (unhide CK _).mono ?_
      rintro r z43 ⟨rfl, hb43⟩
      have E43 := hide ((unhide E42).step hb43)
      have F43 := hide hb43.size
      have T43 := hide ((unhide T42).step hb43)
      have M43 := hide ((hb43.block _ (Array.getElem?_eq_some_iff.1 (unhide M42)).1).trans (unhide M42))
      clear hb43
      go_wp2_with fail
      refine hK.out _ _ (unhide SY _ (unhide E43)) (fun _ => ?_)
      clear hK K
      try simp only [Act.put, sA, sZ, sS, gA, gZ, gS]
      refine r1 5 rfl (fun K hK => ?_)
      go_simp
      refine (unhide CI _ _ _ _ (unhide E43).low (unhide T43)).mono ?_
      rintro r z44 ⟨cs, rfl, hA44, hb44, hsz, hone⟩
      have E44 := hide ((unhide E43).step hb44)
      have F44 := hide hb44.size
      have T44 := hide ((unhide T43).step hb44)
      have M44 := hide ((hb44.block _ (Array.getElem?_eq_some_iff.1 (unhide M43)).1).trans (unhide M43))
      have A44 := hide hA44
      clear hb44 hA44
      go_wp2_with fail
      refine hK.out _ _ (unhide SY _ (unhide E44)) (fun _ => ?_)
      clear hK K
      try simp only [Act.put, sA, sZ, sS, gA, gZ, gS]
      refine r1 7 rfl (fun K hK => ?_)
      rw [if_pos (by rfl)]
      refine wp_store_row 42 (.tmp 14) (.tmp 74) rfl z41.heap.size cs rfl rfl 42 eoZ (unhide M44) (by rw [hsz]; exact infoEo) (by rw [hsz]; rfl) hone ?_
      have HZ : Hid (Jo (J3 w A ca x y t o bw lo1 hi1 cw bg cg) base o cs (z44.setRow z41.heap.size cs) z41.heap.size z43.heap.size z44.heap.size) := hide (by
       have f41q := unhide F41
       have f42q := unhide F42
       have g42q := unhide G42
       have gb42q := unhide GB42
       have f43q := unhide F43
       have f44q := unhide F44
       have fb := unhide FB
       have hx1 := (unhide ES).low.size; have hx2 := unhide HBS2
       exact ⟨(unhide E44).sw (unhide M44) ⟨by omega, by omega, by omega⟩, setRow_heap z44 z41.heap.size _ cs _ _ (unhide M44), (unhide A44).sw (unhide M44), hsz, hone, by omega, by omega, by omega, by rw [setRow_size]; omega, by rw [setRow_size]; omega⟩)
      refine hK.out _ _ (unhide SY _ (unhide HZ).j) (fun _ => ?_)
      clear hK K
      try simp only [Act.put, sA, sZ, sS, gA, gZ, gS]
      refine wpAnyH_done (by kernel_rfl) ?_ _
      go_wp2_with fail
      go_meet
      exact ⟨_, _, _, cs, rfl, unhide HZ⟩
    ·have hb41 : Below yy.heap.size yy (yy.alloc (.cells eoZ 42)) := (Below.refl _ _).alloc (Nat.le_refl _) _
     have E41 := hide ((unhide E0).step hb41)
     have M41 := hide (heap_alloc_new yy (.cells eoZ 42))
     have G41 : Hid ((yy.alloc (.cells eoZ 42)).heap.size = yy.heap.size + 1) := hide (by simp)
     have GB41 : Hid ((yy.alloc (.cells #[.int .i64 0, .int .i64 0, .int .i64 0, .bool false, .bool false, .bool false, .int .i64 0, .int .i64 0, .int .i64 0, .bool false, .bool false, .bool false, .int .i64 0, .int .i64 0, .int .i64 0, .int .i64 0, .int .i64 0, .slice none 0 0, .slice none 0 0, .bool false, .int .i64 0, .int .i64 0, .bool false, .bool false, .bool false, .int .i64 0, .int .i64 0, .bool false, .bool false, .bool false, .slice none 0 0, .slice none 0 0, .int .i64 0] 42)).heap.size = yy.heap.size + 1) := hide (by simp)
     have F41 := hide hb41.size
     clear hb41
     go_simp
     refine hK.out _ _ (unhide SY _ (unhide E41)) (fun _ => ?_)
     clear hK K
     try simp only [Act.put, sA, sZ, sS, gA, gZ, gS]
     refine r1 1 rfl (fun K hK => ?_)
     go_simp
     refine (unhide CT _ (unhide E41).low).mono ?_
     rintro r z42 ⟨cm42, rfl, hD42, hb42⟩
     have E42 := hide ((unhide E41).step hb42)
     have F42 := hide hb42.size
     have M42 := hide ((hb42.block _ (Array.getElem?_eq_some_iff.1 (unhide M41)).1).trans (unhide M41))
     have X42 := hide hD42
     clear hb42 hD42
     go_wp2_with fail
     refine hK.out _ _ (unhide SY _ (unhide E42)) (fun _ => ?_)
     clear hK K
     try simp only [Act.put, sA, sZ, sS, gA, gZ, gS]
     refine r1 3 rfl (fun K hK => ?_)
     go_simp
     refine (unhide CK _).mono ?_
     rintro r z43 ⟨rfl, hb43⟩
     have E43 := hide ((unhide E42).step hb43)
     have F43 := hide hb43.size
     have T43 := hide ((unhide X42).step hb43)
     have M43 := hide ((hb43.block _ (Array.getElem?_eq_some_iff.1 (unhide M42)).1).trans (unhide M42))
     clear hb43
     go_wp2_with fail
     refine hK.out _ _ (unhide SY _ (unhide E43)) (fun _ => ?_)
     clear hK K
     try simp only [Act.put, sA, sZ, sS, gA, gZ, gS]
     refine r1 5 rfl (fun K hK => ?_)
     go_simp
     refine (unhide CI _ _ _ _ (unhide E43).low (unhide T43)).mono ?_
     rintro r z44 ⟨cs, rfl, hA44, hb44, hsz, hone⟩
     have E44 := hide ((unhide E43).step hb44)
     have F44 := hide hb44.size
     have T44 := hide ((unhide T43).step hb44)
     have M44 := hide ((hb44.block _ (Array.getElem?_eq_some_iff.1 (unhide M43)).1).trans (unhide M43))
     have A44 := hide hA44
     clear hb44 hA44
     go_wp2_with fail
     refine hK.out _ _ (unhide SY _ (unhide E44)) (fun _ => ?_)
     clear hK K
     try simp only [Act.put, sA, sZ, sS, gA, gZ, gS]
     refine r1 7 rfl (fun K hK => ?_)
     rw [if_pos (by rfl)]
     refine wp_store_row 42 (.tmp 14) (.tmp 74) rfl yy.heap.size cs rfl rfl 42 eoZ (unhide M44) (by rw [hsz]; exact infoEo) (by rw [hsz]; rfl) hone ?_
     have HZ : Hid (Jo (J3 w A ca x y t o bw lo1 hi1 cw bg cg) base o cs (z44.setRow yy.heap.size cs) yy.heap.size z43.heap.size z44.heap.size) := hide (by
      have f41q := unhide F41
      have g41q := unhide G41
      have gb41q := unhide GB41
      have f42q := unhide F42
      have f43q := unhide F43
      have f44q := unhide F44
      have fb := unhide FB
      have hx1 := (unhide ES).low.size; have hx2 := unhide HBS2
      exact ⟨(unhide E44).sw (unhide M44) ⟨by omega, by omega, by omega⟩, setRow_heap z44 yy.heap.size _ cs _ _ (unhide M44), (unhide A44).sw (unhide M44), hsz, hone, by omega, by omega, by omega, by rw [setRow_size]; omega, by rw [setRow_size]; omega⟩)
     refine hK.out _ _ (unhide SY _ (unhide HZ).j) (fun _ => ?_)
     clear hK K
     try simp only [Act.put, sA, sZ, sS, gA, gZ, gS]
     refine wpAnyH_done (by kernel_rfl) ?_ _
     go_wp2_with fail
     go_meet
     exact ⟨_, _, _, cs, rfl, unhide HZ⟩
   case rest =>
    obtain ⟨bh, lo5, hi5, ch, hv, hJ⟩ := hcut
    subst hv
    have hhz := hJ.sz
    have HR16 := hide hJ
    clear hJ ES HBS HBS2 SY
    go_wp2_with (first
     | (refine wpList_load_row rfl 42 (.tmp 14) rfl bh rfl 42 ch (0, 0) _ (unhide HR16).m Tryz.underlying42 rfl (by rw [hhz]; exact infoEo) ?_)
     | (refine wpList_load_row rfl 42 (.tmp 8) rfl bw rfl 42 cw (0, 0) _ (unhide HR16).j.m Tryz.underlying42 rfl (by rw [hwz]; exact infoEo) ?_))
    refine (eqD hB (unhide HR16).d (unhide HR16).j.d).mono ?_
    rintro r w17 ⟨rfl, hb⟩
    have HR17 := hide ((unhide HR16).j.step hb)
    clear hb HR16
    go_wp2_with (first | (refine wpList_load_row rfl 42 (.tmp 10) rfl bg rfl 42 cg (0, 0) _ (unhide HR17).g Tryz.underlying42 rfl (by rw [hgz]; exact infoEo) ?_))
    refine (unhide CH _ (unhide HR17).k).mono ?_
    rintro r w18 ⟨rfl, hb⟩
    have HR18 := hide ((unhide HR17).step hb).low
    clear hb HR17
    go_wp2
    go_ret
    exact ⟨rfl, unhide HR18⟩
end Go.Proofs.YtahpjlbaagkdoaaGreatDoor
