/- The model's EndHear: what is answered, in plain words; what lay in memory stands. -/
import Derived.Test.YtahpjlbaagkdoaaGreatDoorS42
import Derived.Test.YtahpjlbaagkdoaaGreatDoorS43
import Derived.Test.YtahpjlbaagkdoaaGreatDoorS44
import Derived.Test.YtahpjlbaagkdoaaGreatDoorShW
namespace Go.Proofs.YtahpjlbaagkdoaaGreatDoor
open Go.RowKit
set_option linter.unusedSimpArgs false in
set_option maxHeartbeats 32000000 in
set_option maxRecDepth 100000 in
theorem sEndHear (e : En) (x1 x2 : Option Addr) (y1 y2 : Nat) (F1 F2 : List Op.Opt) (p : Op.Pk) (now : Int) (w : World) (l1 : F1.length ≤ 1048576) (l2 : F2.length ≤ 1048576) (h1 : HoldsO w (.slice x1 F1.length y1) F1) (h2 : HoldsO w (.slice x2 F2.length y2) F2) :
  Calls Tryz.prog 14 #[.agg (enC e (.slice x1 F1.length y1) (.slice x2 F2.length y2)), .agg #[.int .i64 p.code, .int .i64 p.id, .string p.data], .int .i64 now] w fun r w' => EvA w (hearF e F1 F2 p now) r w' := by
 have CBG := hide fun W (hb : Below w.heap.size w W) => sBegin e x1 x2 y1 y2 F1 F2 now W l1 l2 (h1.below hb rfl) (h2.below hb rfl)
 have CP : Hid (∀ W, Calls Tryz.prog 46 #[.agg #[.int .i64 p.code, .int .i64 p.id, .string p.data]] W fun e w' => e = .returned (.bool (Op.pok p)) ∧ Below W.heap.size W w') := hide fun W => specPkRight_at p.code p.id p.data W
 have CB0 := hide fun (hr : Op.right F1 = true) W (hb : Below w.heap.size w W) => specL04 _ F1 W hr (h1.below hb rfl)
 clear h1 h2
 have HF := hide (fit0 (e := e) (F1 := F1) (F2 := F2) (now := now))
 have HG := hide (enOk_rights (e := e) (F1 := F1) (F2 := F2))
 obtain ⟨hA, hP, hX, hb⟩ := start3r w (.cells (enC e (.slice x1 F1.length y1) (.slice x2 F2.length y2)) 29) (.cells #[.int .i64 p.code, .int .i64 p.id, .string p.data] 35) (.cells eoZ 42)
 obtain ⟨A, eA⟩ : ∃ A, w.heap.size = A := ⟨_, rfl⟩
 have hXw0 : w.heap.size ≤ A + 1 + 1 := by omega
 rw [eA] at hA hP hX
 have H0 := hide (And.intro hA (And.intro hP (And.intro hX hb)))
 clear hA hP hX hb
 obtain ⟨RES, hRES⟩ : ∃ RES, hearF e F1 F2 p now = RES := ⟨_, rfl⟩
 rw [hRES]
 have HR := hide hRES
 clear hRES
 obtain ⟨ok, hok⟩ : ∃ b, (enOk e F1 F2 && within 0 1000000000 now) = b := ⟨_, rfl⟩
 obtain ⟨ok3, hok3⟩ : ∃ b, Op.pok p = b := ⟨_, rfl⟩
 rw [hok] at CBG HF
 rw [hok3] at CP
 have HO1 := hide hok
 have HO3 := hide hok3
 clear hok hok3
 obtain ⟨n1, e1⟩ : ∃ n, F1.length = n := ⟨_, rfl⟩
 obtain ⟨n2, e2⟩ : ∃ n, F2.length = n := ⟨_, rfl⟩
 rw [e1] at CBG CB0 H0 ⊢
 rw [e2] at CBG H0 ⊢
 go_enter Tryz.func14, Tryz.ntmps14
 go_upto_region 1 with fail
 obtain ⟨X, hXe⟩ : ∃ X, A + 1 + 1 = X := ⟨_, rfl⟩
 have hXw : w.heap.size ≤ X := by omega
 rw [hXe] at H0 ⊢
 clear hXe hXw0 eA
 refine gen_world (Hb w A X (enC e (.slice x1 n1 y1) (.slice x2 n2 y2)) p) ?_ ?_
 ·exact ⟨(unhide H0).1, (unhide H0).2.1, (unhide H0).2.2.1, (unhide H0).2.2.2⟩
 clear H0
 intro z hz
 have HZ := hide hz
 clear hz
 go_wp2_with (first
  | (refine wpList_load_row rfl 29 (.tmp 3) rfl A rfl 29 (enC e (.slice x1 n1 y1) (.slice x2 n2 y2)) (0, 0) _ (unhide HZ).a Tryz.underlying29 rfl infoE ?_))
 refine (unhide CBG _ (unhide HZ).b).mono ?_
 rintro r z1 ⟨B, v1, v2, rfl, hL⟩
 have HL := hide hL
 have KZ : Hid (∀ y9, Below z.heap.size z y9 → Hb w A X (enC e (.slice x1 n1 y1) (.slice x2 n2 y2)) p y9) := hide fun y9 hb => (unhide HZ).step hb
 have KX : Hid (∀ y9, Below z.heap.size z y9 → y9.heap[X]? = some (.cells eoZ 42) ∧ Below w.heap.size w y9) := hide fun y9 hb => ⟨((unhide HZ).step hb).x, ((unhide HZ).step hb).b⟩
 clear hL CBG
 obtain ⟨p0, p1, p2⟩ := (unhide KZ _ (unhide HL).low).pc
 cases ok
 ·go_wp2_with (first
   | (refine wpList_buildTo rfl 42 _ rfl (some 22) rfl (eoC enZero (.slice none 0 0) (.slice none 0 0) (.slice none 0 0) (.slice none 0 0) 1) (by as_aux_lemma => kernel_rfl) ?_)
   | (refine wpList_store_rowTo rfl 42 (.tmp 6) (.tmp 22) rfl rfl X (eoC enZero (.slice none 0 0) (.slice none 0 0) (.slice none 0 0) (.slice none 0 0) 1) rfl rfl 42 eoZ (unhide KX _ (unhide HL).low).1 infoEo rfl (eoC_all _ _ _ _ _ _ _ _ _ _ _ _ _ _) ?_))
  refine bodyPost_ret (v := .agg (eoC enZero (.slice none 0 0) (.slice none 0 0) (.slice none 0 0) (.slice none 0 0) 1)) (by simp [results, Tryz.results14, asAddr, Act.put, loadEo (setRow_heap z1 X _ (eoC enZero (.slice none 0 0) (.slice none 0 0) (.slice none 0 0) (.slice none 0 0) 1) _ _ (unhide KX _ (unhide HL).low).1)]) rfl ?_
  have hres : RES = eoErr 1 := by
   rw [← unhide HR]
   unfold hearF
   rw [if_neg (fun h => by have := h.1; rw [unhide HO1] at this; exact absurd this (by simp))]
  rw [hres]
  exact evErr (below_row (unhide KX _ (unhide HL).low).2 hXw _) 1
 replace HF := hide (unhide HF (by first | rfl | trivial))
 go_wp2_with fail
 refine (unhide CP _).mono ?_
 rintro r z2 ⟨rfl, hb2⟩
 have HL2 := hide ((unhide HL).step hb2)
 clear hb2 CP HL p0 p1 p2
 cases ok3
 ·go_wp2_with (first
   | (refine wpList_buildTo rfl 42 _ rfl (some 22) rfl (eoC enZero (.slice none 0 0) (.slice none 0 0) (.slice none 0 0) (.slice none 0 0) 1) (by as_aux_lemma => kernel_rfl) ?_)
   | (refine wpList_store_rowTo rfl 42 (.tmp 6) (.tmp 22) rfl rfl X (eoC enZero (.slice none 0 0) (.slice none 0 0) (.slice none 0 0) (.slice none 0 0) 1) rfl rfl 42 eoZ (unhide KX _ (unhide HL2).low).1 infoEo rfl (eoC_all _ _ _ _ _ _ _ _ _ _ _ _ _ _) ?_))
  refine bodyPost_ret (v := .agg (eoC enZero (.slice none 0 0) (.slice none 0 0) (.slice none 0 0) (.slice none 0 0) 1)) (by simp [results, Tryz.results14, asAddr, Act.put, loadEo (setRow_heap z2 X _ (eoC enZero (.slice none 0 0) (.slice none 0 0) (.slice none 0 0) (.slice none 0 0) 1) _ _ (unhide KX _ (unhide HL2).low).1)]) rfl ?_
  have hres : RES = eoErr 1 := by
   rw [← unhide HR]
   unfold hearF
   rw [if_neg (fun h => by have := h.2; rw [unhide HO3] at this; exact absurd this (by simp))]
  rw [hres]
  exact evErr (below_row (unhide KX _ (unhide HL2).low).2 hXw _) 1
 have HOK : Hid ((enOk e F1 F2 && within 0 1000000000 now) = true ∧ Op.pok p = true) := hide ⟨unhide HO1, unhide HO3⟩
 have HF2 : Hid (Fit 0 (cxP now p [] (0, []) nilS nilS) ⟨e, F1, F2, [], []⟩) := hide ((unhide HF).1.came p (unhide HOK).2 rfl rfl _ _)
 have c12 : z2.cell? ⟨A, 12, none⟩ = some (.int .i64 e.st) := by rw [cell_of_row _ _ _ _ _ _ (unhide KZ _ (unhide HL2).low).a]; rfl
 have CB : Hid (∀ W, Below z.heap.size z W → Calls Tryz.prog 48 #[.slice x1 n1 y1] W fun e w' => e = .returned (.string (txt (Op.bytes F1))) ∧ Below W.heap.size W w') := hide fun W hb => unhide CB0 (unhide HG (by have := unhide HO1; rw [Bool.and_eq_true] at this; exact this.1)).1 W (unhide KX W hb).2
 clear HO1 HO3 HG CB0
 by_cases hs1 : e.st ≤ 1
 ·go_wp2_with (first
   | (refine wpList_buildTo rfl 42 _ rfl (some 26) rfl (eoC enZero (.slice none 0 0) (.slice none 0 0) (.slice none 0 0) (.slice none 0 0) 8) (by as_aux_lemma => kernel_rfl) ?_)
   | (refine wpList_store_rowTo rfl 42 (.tmp 6) (.tmp 26) rfl rfl X (eoC enZero (.slice none 0 0) (.slice none 0 0) (.slice none 0 0) (.slice none 0 0) 8) rfl rfl 42 eoZ (unhide KX _ (unhide HL2).low).1 infoEo rfl (eoC_all _ _ _ _ _ _ _ _ _ _ _ _ _ _) ?_))
  refine bodyPost_ret (v := .agg (eoC enZero (.slice none 0 0) (.slice none 0 0) (.slice none 0 0) (.slice none 0 0) 8)) (by simp [results, Tryz.results14, asAddr, Act.put, loadEo (setRow_heap z2 X _ (eoC enZero (.slice none 0 0) (.slice none 0 0) (.slice none 0 0) (.slice none 0 0) 8) _ _ (unhide KX _ (unhide HL2).low).1)]) rfl ?_
  have hres : RES = eoErr 8 := by
   rw [← unhide HR]
   unfold hearF
   rw [if_pos (unhide HOK), if_pos hs1]
  rw [hres]
  exact evErr (below_row (unhide KX _ (unhide HL2).low).2 hXw _) 8
 have HST : Hid (1 < e.st) := hide (by omega)
 clear hs1
 obtain ⟨p0, p1, p2⟩ := (unhide KZ _ (unhide HL2).low).pc
 have k31 := (unhide HL2).cell (i := 31) rfl
 have k32 := (unhide HL2).cell (i := 32) rfl
 have k33 := (unhide HL2).cell (i := 33) rfl
 have f31 := (unhide HL2).frz 31
 have f32 := (unhide HL2).frz 32
 have f33 := (unhide HL2).frz 33
 have HS1 := unhide HST
 go_upto_region 7 with fail
 refine gen_world (fun y => Lay 89 z z1 B (cxP now p [] (0, []) nilS nilS) ⟨e, F1, F2, [], []⟩ v1 v2 nilS nilS y) ((unhide HL2).cameP p.code p.id p.data) ?_
 clear p0 p1 p2 k31 k32 k33 f31 f32 f33 HL2 c12
 intro z4 hz4
 have HL4 := hide hz4
 obtain ⟨p0, p1, p2⟩ := (unhide KZ _ hz4.low).pc
 have HQQ : Hid (0 ≤ e.st ∧ e.st ≤ 9) := hide (unhide HF).2.1
 by_cases h1 : p.code = 1
 ·have CE := hide (sRequest hz4 (unhide HF).1 (unhide HOK).2 (unhide HQQ) h1)
  have HRS : Hid (RES = hearP now p e F1 F2) := hide (by
   rw [← unhide HR]
   unfold hearF
   rw [if_pos (unhide HOK), if_neg (by have := unhide HST; omega)])
  rw [h1] at p0
  clear hz4 h1 CB p1 p2
  generalize hearP now p e F1 F2 = EV at *
  go_wp2_with fail
  refine (unhide CE).mono ?_
  rintro r z6 ⟨u1, u2, us, ut, rfl, hE'⟩
  have hE : EvA z EV (.returned (.agg (eoC EV.e u1 u2 us ut EV.cd))) z6 := ⟨u1, u2, us, ut, rfl, hE'⟩
  clear hE'
  generalize eoC EV.e u1 u2 us ut EV.cd = cs at *
  obtain ⟨hsz, hall, hX2, hEv⟩ := hE.up (unhide HZ).b (unhide HZ).x hXw
  have HE2 := hide (And.intro hX2 hEv)
  clear hE hX2 hEv CE
  go_wp2_with (first
   | (refine wpList_store_rowTo rfl 42 (.tmp 6) (.tmp 36) rfl rfl X cs rfl rfl 42 eoZ (unhide HE2).1 (by rw [hsz]; exact infoEo) (by rw [hsz]; rfl) hall ?_))
  refine bodyPost_ret (v := .agg cs) (by simp [results, Tryz.results14, asAddr, Act.put, loadEo (setRow_heap z6 X _ cs _ _ (unhide HE2).1) hsz]) rfl ?_
  rw [unhide HRS]
  exact (unhide HE2).2
 by_cases h2 : p.code = 2
 ·rw [h2] at p0
  clear hz4
  have SX : Hid (∀ y9, Below z.heap.size z y9 → y9.cell? ⟨A + 1, 1, none⟩ = some (.int .i64 p.id) ∧ y9.cell? ⟨A, 15, none⟩ = some (.int .i64 e.id) ∧ y9.cell? ⟨A + 1, 2, none⟩ = some (.string p.data) ∧ y9.cell? ⟨A, 17, none⟩ = some (.slice x1 n1 y1)) := hide fun y9 hb => by
   have hh := unhide KZ y9 hb
   exact ⟨hh.pc.2.1, by rw [cell_of_row _ _ _ _ _ _ hh.a]; rfl, hh.pc.2.2, by rw [cell_of_row _ _ _ _ _ _ hh.a]; rfl⟩
  by_cases hi : p.id = e.id
  ·by_cases hu : p.data = txt (Op.bytes F1)
   ·have HEQ := hide (And.intro hi hu)
    rw [hi, hu] at SX
    rw [hi] at p1
    rw [hu] at p2
    clear hi hu
    obtain ⟨t, ht⟩ : ∃ t, txt (Op.bytes F1) = t := ⟨_, rfl⟩
    rw [ht] at SX CB p2
    obtain ⟨x, hx⟩ : ∃ x, e.id = x := ⟨_, rfl⟩
    rw [hx] at SX p1
    clear ht hx
    go_upto_region 11 with fail
    have E4 := hide ((unhide HL4).step (Below.refl _ _).drew)
    refine wp_region_held_drew (S := fun y9 => y9.cell? ⟨A + 1, 1, none⟩ = some (.int .i64 x) ∧ y9.cell? ⟨A, 15, none⟩ = some (.int .i64 x) ∧ y9.cell? ⟨A + 1, 2, none⟩ = some (.string t) ∧ y9.cell? ⟨A, 17, none⟩ = some (.slice x1 n1 y1)) (by kernel_rfl) (unhide SX _ (unhide E4).low) (fun hHeld => ?_)
    generalize z4.drew = yy at E4 hHeld ⊢
    refine tk 0 (v := ?va1_0) rfl ?hya1_0 ?_
    case hya1_0 => intro w hSw; (try dsimp only at hSw); go_simp; try with_reducible rfl
    try simp only [Act.put, sA, sZ, sS, gA, gZ]
    refine tk 1 (v := ?va2_1) rfl ?hya2_1 ?_
    case hya2_1 => intro w hSw; (try dsimp only at hSw); go_simp; try with_reducible rfl
    try simp only [Act.put, sA, sZ, sS, gA, gZ, gS]
    refine tk 2 (v := ?va3_2) rfl ?hya3_2 ?_
    case hya3_2 => intro w hSw; (try dsimp only at hSw); go_simp; try with_reducible rfl
    try simp only [Act.put, sA, sZ, sS, gA, gZ, gS]
    refine tk 3 (v := ?va4_3) rfl ?hya4_3 ?_
    case hya4_3 => intro w hSw; (try dsimp only at hSw); go_simp; try with_reducible rfl
    try simp only [Act.put, sA, sZ, sS, gA, gZ, gS]
    refine tk 4 (v := ?va5_4) rfl ?hya5_4 ?_
    case hya5_4 => intro w hSw; (try dsimp only at hSw); go_simp; try with_reducible rfl
    try simp only [Act.put, sA, sZ, sS, gA, gZ, gS]
    refine tk 5 (v := ?va6_5) rfl ?hya6_5 ?_
    case hya6_5 => intro w hSw; (try dsimp only at hSw); go_simp; try with_reducible rfl
    try simp only [Act.put, sA, sZ, sS, gA, gZ, gS]
    refine tk 6 (v := ?va7_6) rfl ?hya7_6 ?_
    case hya7_6 => intro w hSw; (try dsimp only at hSw); go_simp; try with_reducible rfl
    try simp only [Act.put, sA, sZ, sS, gA, gZ, gS]
    refine tk 7 (v := ?va8_7) rfl ?hya8_7 ?_
    case hya8_7 => intro w hSw; (try dsimp only at hSw); go_simp; try with_reducible rfl
    try simp only [Act.put, sA, sZ, sS, gA, gZ, gS]
    refine tk 8 (v := ?va9_8) rfl ?hya9_8 ?_
    case hya9_8 => intro w hSw; (try dsimp only at hSw); go_simp; try with_reducible rfl
    try simp only [Act.put, sA, sZ, sS, gA, gZ, gS]
    refine tk 9 (v := ?va10_9) rfl ?hya10_9 ?_
    case hya10_9 => intro w hSw; (try dsimp only at hSw); go_simp; try with_reducible rfl
    try simp only [Act.put, sA, sZ, sS, gA, gZ, gS]
    refine r1 10 rfl (fun K hK => ?_)
    go_simp
    refine (unhide CB _ (unhide E4).low).mono ?_
    rintro r z5 ⟨rfl, hb5⟩
    have E5 := hide ((unhide E4).step hb5)
    clear hb5
    go_wp2_with fail
    refine hK.out _ _ (unhide SX _ (unhide E5).low) (fun _ => ?_)
    clear hK K
    try simp only [Act.put, sA, sZ, sS, gA, gZ, gS]
    refine tk 11 (v := ?va11_11) rfl ?hya11_11 ?_
    case hya11_11 => intro w hSw; (try dsimp only at hSw); go_simp; try with_reducible rfl
    try simp only [Act.put, sA, sZ, sS, gA, gZ, gS]
    refine tk 12 (v := ?va12_12) rfl ?hya12_12 ?_
    case hya12_12 => intro w hSw; (try dsimp only at hSw); go_simp; try with_reducible rfl
    try simp only [Act.put, sA, sZ, sS, gA, gZ, gS]
    refine wpAnyH_done (by kernel_rfl) ?_ _
    have CE := hide (sEvent z z1 B (cxP now p [] (0, []) nilS nilS) ⟨e, F1, F2, [], []⟩ v1 v2 z5 (unhide E5) rfl rfl (unhide HF2) ⟨#[82, 67, 65]⟩ (by decide) (fun a ha => actSAll _ a ((fsmAll (i := 8) (c := (cxP now p [] (0, []) nilS nilS)) rfl (unhide HF).2.1.1 (unhide HF).2.1.2 (fun h => absurd h (by decide)) (fun h => absurd h (by decide))).1 a ha)) (fsmAll (i := 8) (c := (cxP now p [] (0, []) nilS nilS)) rfl (unhide HF).2.1.1 (unhide HF).2.1.2 (fun h => absurd h (by decide)) (fun h => absurd h (by decide))).2)
    have HRS : Hid (RES = evF (cxP now p [] (0, []) nilS nilS) ⟨e, F1, F2, [], []⟩ ⟨#[82, 67, 65]⟩) := hide (by
     rw [← unhide HR]
     unfold hearF
     rw [if_pos (unhide HOK), if_neg (by have := unhide HST; omega)]
     unfold hearP
     rw [if_neg (by omega), if_pos h2, if_pos (unhide HEQ)]
     rfl)
    generalize evF (cxP now p [] (0, []) nilS nilS) ⟨e, F1, F2, [], []⟩ ⟨#[82, 67, 65]⟩ = EV at *
    go_wp2_with fail
    refine (unhide CE).mono ?_
    rintro r z6 ⟨u1, u2, us, ut, rfl, hE'⟩
    have hE : EvA z EV (.returned (.agg (eoC EV.e u1 u2 us ut EV.cd))) z6 := ⟨u1, u2, us, ut, rfl, hE'⟩
    clear hE'
    generalize eoC EV.e u1 u2 us ut EV.cd = cs at *
    obtain ⟨hsz, hall, hX2, hEv⟩ := hE.up (unhide HZ).b (unhide HZ).x hXw
    have HE2 := hide (And.intro hX2 hEv)
    clear hE hX2 hEv CE
    go_wp2_with (first
     | (refine wpList_store_rowTo rfl 42 (.tmp 6) (.tmp 54) rfl rfl X cs rfl rfl 42 eoZ (unhide HE2).1 (by rw [hsz]; exact infoEo) (by rw [hsz]; rfl) hall ?_))
    refine bodyPost_ret (v := .agg cs) (by simp [results, Tryz.results14, asAddr, Act.put, loadEo (setRow_heap z6 X _ cs _ _ (unhide HE2).1) hsz]) rfl ?_
    rw [unhide HRS]
    exact (unhide HE2).2
   ·have HNE : Hid (¬ (p.id = e.id ∧ p.data = txt (Op.bytes F1))) := hide fun h => hu h.2
    rw [hi] at SX p1
    obtain ⟨t, ht⟩ : ∃ t, p.data = t := ⟨_, rfl⟩
    obtain ⟨u, hu'⟩ : ∃ u, txt (Op.bytes F1) = u := ⟨_, rfl⟩
    rw [ht] at SX p2 hu
    rw [hu'] at CB hu
    obtain ⟨x, hx⟩ : ∃ x, e.id = x := ⟨_, rfl⟩
    rw [hx] at SX p1
    clear ht hu' hi hx
    have hu2 : (t.toList != u.toList) = true := by
     rw [bne_iff_ne]
     intro e
     exact hu (of_toList9 e)
    have hu3 : (t.toList == u.toList) = false := by
     rw [beq_eq_false_iff_ne]
     intro e
     exact hu (of_toList9 e)
    clear hu
    go_upto_region 11 with fail
    have E4 := hide ((unhide HL4).step (Below.refl _ _).drew)
    refine wp_region_held_drew (S := fun y9 => y9.cell? ⟨A + 1, 1, none⟩ = some (.int .i64 x) ∧ y9.cell? ⟨A, 15, none⟩ = some (.int .i64 x) ∧ y9.cell? ⟨A + 1, 2, none⟩ = some (.string t) ∧ y9.cell? ⟨A, 17, none⟩ = some (.slice x1 n1 y1)) (by kernel_rfl) (unhide SX _ (unhide E4).low) (fun hHeld => ?_)
    generalize z4.drew = yy at E4 hHeld ⊢
    refine tk 0 (v := ?vb1_0) rfl ?hyb1_0 ?_
    case hyb1_0 => intro w hSw; (try dsimp only at hSw); go_simp; try with_reducible rfl
    try simp only [Act.put, sA, sZ, sS, gA, gZ]
    refine tk 1 (v := ?vb2_1) rfl ?hyb2_1 ?_
    case hyb2_1 => intro w hSw; (try dsimp only at hSw); go_simp; try with_reducible rfl
    try simp only [Act.put, sA, sZ, sS, gA, gZ, gS]
    refine tk 2 (v := ?vb3_2) rfl ?hyb3_2 ?_
    case hyb3_2 => intro w hSw; (try dsimp only at hSw); go_simp; try with_reducible rfl
    try simp only [Act.put, sA, sZ, sS, gA, gZ, gS]
    refine tk 3 (v := ?vb4_3) rfl ?hyb4_3 ?_
    case hyb4_3 => intro w hSw; (try dsimp only at hSw); go_simp; try with_reducible rfl
    try simp only [Act.put, sA, sZ, sS, gA, gZ, gS]
    refine tk 4 (v := ?vb5_4) rfl ?hyb5_4 ?_
    case hyb5_4 => intro w hSw; (try dsimp only at hSw); go_simp; try with_reducible rfl
    try simp only [Act.put, sA, sZ, sS, gA, gZ, gS]
    refine tk 5 (v := ?vb6_5) rfl ?hyb6_5 ?_
    case hyb6_5 => intro w hSw; (try dsimp only at hSw); go_simp; try with_reducible rfl
    try simp only [Act.put, sA, sZ, sS, gA, gZ, gS]
    refine tk 6 (v := ?vb7_6) rfl ?hyb7_6 ?_
    case hyb7_6 => intro w hSw; (try dsimp only at hSw); go_simp; try with_reducible rfl
    try simp only [Act.put, sA, sZ, sS, gA, gZ, gS]
    refine tk 7 (v := ?vb8_7) rfl ?hyb8_7 ?_
    case hyb8_7 => intro w hSw; (try dsimp only at hSw); go_simp; try with_reducible rfl
    try simp only [Act.put, sA, sZ, sS, gA, gZ, gS]
    refine tk 8 (v := ?vb9_8) rfl ?hyb9_8 ?_
    case hyb9_8 => intro w hSw; (try dsimp only at hSw); go_simp; try with_reducible rfl
    try simp only [Act.put, sA, sZ, sS, gA, gZ, gS]
    refine tk 9 (v := ?vb10_9) rfl ?hyb10_9 ?_
    case hyb10_9 => intro w hSw; (try dsimp only at hSw); go_simp; try with_reducible rfl
    try simp only [Act.put, sA, sZ, sS, gA, gZ, gS]
    refine r1 10 rfl (fun K hK => ?_)
    go_simp
    refine (unhide CB _ (unhide E4).low).mono ?_
    rintro r z5 ⟨rfl, hb5⟩
    have E5 := hide ((unhide E4).step hb5)
    clear hb5
    go_wp2_with fail
    refine hK.out _ _ (unhide SX _ (unhide E5).low) (fun _ => ?_)
    clear hK K
    try simp only [Act.put, sA, sZ, sS, gA, gZ, gS]
    refine tk 11 (v := ?vb11_11) rfl ?hyb11_11 ?_
    case hyb11_11 => intro w hSw; (try dsimp only at hSw); go_simp; try with_reducible rfl
    try simp only [Act.put, sA, sZ, sS, gA, gZ, gS]
    refine tk 12 (v := ?vb12_12) rfl ?hyb12_12 ?_
    case hyb12_12 => intro w hSw; (try dsimp only at hSw); go_simp; try with_reducible rfl
    try simp only [Act.put, sA, sZ, sS, gA, gZ, gS]
    refine wpAnyH_done (by kernel_rfl) ?_ _
    go_wp2_with (first
     | (refine wpList_buildTo rfl 42 _ rfl (some 52) rfl (eoC enZero (.slice none 0 0) (.slice none 0 0) (.slice none 0 0) (.slice none 0 0) 8) (by as_aux_lemma => kernel_rfl) ?_)
     | (refine wpList_store_rowTo rfl 42 (.tmp 6) (.tmp 52) rfl rfl X (eoC enZero (.slice none 0 0) (.slice none 0 0) (.slice none 0 0) (.slice none 0 0) 8) rfl rfl 42 eoZ (unhide KX _ (unhide E5).low).1 infoEo rfl (eoC_all _ _ _ _ _ _ _ _ _ _ _ _ _ _) ?_))
    refine bodyPost_ret (v := .agg (eoC enZero (.slice none 0 0) (.slice none 0 0) (.slice none 0 0) (.slice none 0 0) 8)) (by simp [results, Tryz.results14, asAddr, Act.put, loadEo (setRow_heap z5 X _ (eoC enZero (.slice none 0 0) (.slice none 0 0) (.slice none 0 0) (.slice none 0 0) 8) _ _ (unhide KX _ (unhide E5).low).1)]) rfl ?_
    have hres : RES = eoErr 8 := by
     rw [← unhide HR]
     unfold hearF
     rw [if_pos (unhide HOK), if_neg (by have := unhide HST; omega)]
     unfold hearP
     rw [if_neg (by omega), if_pos h2, if_neg (unhide HNE)]
    rw [hres]
    exact evErr (below_row (unhide KX _ (unhide E5).low).2 hXw _) 8
  ·have HNE : Hid (¬ (p.id = e.id ∧ p.data = txt (Op.bytes F1))) := hide fun h => hi h.1
   have hi2 : (p.id != e.id) = true := by simpa using hi
   have hi3 : (p.id == e.id) = false := by simpa using hi
   obtain ⟨t, ht⟩ : ∃ t, p.data = t := ⟨_, rfl⟩
   obtain ⟨x, hx⟩ : ∃ x, p.id = x := ⟨_, rfl⟩
   obtain ⟨y, hy⟩ : ∃ y, e.id = y := ⟨_, rfl⟩
   rw [ht] at SX p2
   rw [hx] at SX p1 hi2 hi3
   rw [hy] at SX hi2 hi3
   clear ht hi hx hy
   go_upto_region 11 with fail
   have E4 := hide ((unhide HL4).step (Below.refl _ _).drew)
   refine wp_region_held_drew (S := fun y9 => y9.cell? ⟨A + 1, 1, none⟩ = some (.int .i64 x) ∧ y9.cell? ⟨A, 15, none⟩ = some (.int .i64 y) ∧ y9.cell? ⟨A + 1, 2, none⟩ = some (.string t) ∧ y9.cell? ⟨A, 17, none⟩ = some (.slice x1 n1 y1)) (by kernel_rfl) (unhide SX _ (unhide E4).low) (fun hHeld => ?_)
   generalize z4.drew = yy at E4 hHeld ⊢
   refine tk 0 (v := ?vc1_0) rfl ?hyc1_0 ?_
   case hyc1_0 => intro w hSw; (try dsimp only at hSw); go_simp; try with_reducible rfl
   try simp only [Act.put, sA, sZ, sS, gA, gZ]
   refine tk 1 (v := ?vc2_1) rfl ?hyc2_1 ?_
   case hyc2_1 => intro w hSw; (try dsimp only at hSw); go_simp; try with_reducible rfl
   try simp only [Act.put, sA, sZ, sS, gA, gZ, gS]
   refine tk 2 (v := ?vc3_2) rfl ?hyc3_2 ?_
   case hyc3_2 => intro w hSw; (try dsimp only at hSw); go_simp; try with_reducible rfl
   try simp only [Act.put, sA, sZ, sS, gA, gZ, gS]
   refine tk 3 (v := ?vc4_3) rfl ?hyc4_3 ?_
   case hyc4_3 => intro w hSw; (try dsimp only at hSw); go_simp; try with_reducible rfl
   try simp only [Act.put, sA, sZ, sS, gA, gZ, gS]
   refine tk 4 (v := ?vc5_4) rfl ?hyc5_4 ?_
   case hyc5_4 => intro w hSw; (try dsimp only at hSw); go_simp; try with_reducible rfl
   try simp only [Act.put, sA, sZ, sS, gA, gZ, gS]
   refine tk 5 (v := ?vc6_5) rfl ?hyc6_5 ?_
   case hyc6_5 => intro w hSw; (try dsimp only at hSw); go_simp; try with_reducible rfl
   try simp only [Act.put, sA, sZ, sS, gA, gZ, gS]
   refine wpAnyH_take (i := 6) (v := undef) rfl (by kernel_rfl) (by kernel_rfl) (by kernel_rfl) (fun _ _ _ h => h) (Or.inr ⟨by rfl, rfl⟩) (by assumption) ?_
   try simp only [Act.put, sA, sZ, sS, gA, gZ, gS]
   refine wpAnyH_take (i := 7) (v := undef) rfl (by kernel_rfl) (by kernel_rfl) (by kernel_rfl) (fun _ _ _ h => h) (Or.inr ⟨by rfl, rfl⟩) (by assumption) ?_
   try simp only [Act.put, sA, sZ, sS, gA, gZ, gS]
   refine wpAnyH_take (i := 8) (v := undef) rfl (by kernel_rfl) (by kernel_rfl) (by kernel_rfl) (fun _ _ _ h => h) (Or.inr ⟨by rfl, rfl⟩) (by assumption) ?_
   try simp only [Act.put, sA, sZ, sS, gA, gZ, gS]
   refine wpAnyH_take (i := 9) (v := undef) rfl (by kernel_rfl) (by kernel_rfl) (by kernel_rfl) (fun _ _ _ h => h) (Or.inr ⟨by rfl, rfl⟩) (by assumption) ?_
   try simp only [Act.put, sA, sZ, sS, gA, gZ, gS]
   refine wpAnyH_take (i := 10) (v := undef) rfl (by kernel_rfl) (by kernel_rfl) (by kernel_rfl) (fun _ _ _ h => h) (Or.inr ⟨by rfl, rfl⟩) (by assumption) ?_
   try simp only [Act.put, sA, sZ, sS, gA, gZ, gS]
   refine wpAnyH_take (i := 11) (v := undef) rfl (by kernel_rfl) (by kernel_rfl) (by kernel_rfl) (fun _ _ _ h => h) (Or.inr ⟨by rfl, rfl⟩) (by assumption) ?_
   try simp only [Act.put, sA, sZ, sS, gA, gZ, gS]
   refine tk 12 (v := ?vc13_12) rfl ?hyc13_12 ?_
   case hyc13_12 => intro w hSw; (try dsimp only at hSw); go_simp; try with_reducible rfl
   try simp only [Act.put, sA, sZ, sS, gA, gZ, gS]
   refine wpAnyH_done (by kernel_rfl) ?_ _
   go_wp2_with (first
    | (refine wpList_buildTo rfl 42 _ rfl (some 52) rfl (eoC enZero (.slice none 0 0) (.slice none 0 0) (.slice none 0 0) (.slice none 0 0) 8) (by as_aux_lemma => kernel_rfl) ?_)
    | (refine wpList_store_rowTo rfl 42 (.tmp 6) (.tmp 52) rfl rfl X (eoC enZero (.slice none 0 0) (.slice none 0 0) (.slice none 0 0) (.slice none 0 0) 8) rfl rfl 42 eoZ (unhide KX _ (unhide E4).low).1 infoEo rfl (eoC_all _ _ _ _ _ _ _ _ _ _ _ _ _ _) ?_))
   refine bodyPost_ret (v := .agg (eoC enZero (.slice none 0 0) (.slice none 0 0) (.slice none 0 0) (.slice none 0 0) 8)) (by simp [results, Tryz.results14, asAddr, Act.put, loadEo (setRow_heap yy X _ (eoC enZero (.slice none 0 0) (.slice none 0 0) (.slice none 0 0) (.slice none 0 0) 8) _ _ (unhide KX _ (unhide E4).low).1)]) rfl ?_
   have hres : RES = eoErr 8 := by
    rw [← unhide HR]
    unfold hearF
    rw [if_pos (unhide HOK), if_neg (by have := unhide HST; omega)]
    unfold hearP
    rw [if_neg (by omega), if_pos h2, if_neg (unhide HNE)]
   rw [hres]
   exact evErr (below_row (unhide KX _ (unhide E4).low).2 hXw _) 8
 by_cases h34 : p.code = 3 ∨ p.code = 4
 ·have CE := hide (sRefused hz4 (unhide HF).1 (unhide HOK).2 (unhide HQQ) h34)
  have HRS : Hid (RES = hearP now p e F1 F2) := hide (by
   rw [← unhide HR]
   unfold hearF
   rw [if_pos (unhide HOK), if_neg (by have := unhide HST; omega)])
  clear hz4 CB p1 p2 h1 h2
  generalize hearP now p e F1 F2 = EV at *
  rcases h34 with h3 | h4
  ·rw [h3] at p0
   clear h3
   go_wp2_with fail
   refine (unhide CE).mono ?_
   rintro r z6 ⟨u1, u2, us, ut, rfl, hE'⟩
   have hE : EvA z EV (.returned (.agg (eoC EV.e u1 u2 us ut EV.cd))) z6 := ⟨u1, u2, us, ut, rfl, hE'⟩
   clear hE'
   generalize eoC EV.e u1 u2 us ut EV.cd = cs at *
   obtain ⟨hsz, hall, hX2, hEv⟩ := hE.up (unhide HZ).b (unhide HZ).x hXw
   have HE2 := hide (And.intro hX2 hEv)
   clear hE hX2 hEv CE
   go_wp2_with (first
    | (refine wpList_store_rowTo rfl 42 (.tmp 6) (.tmp 59) rfl rfl X cs rfl rfl 42 eoZ (unhide HE2).1 (by rw [hsz]; exact infoEo) (by rw [hsz]; rfl) hall ?_))
   refine bodyPost_ret (v := .agg cs) (by simp [results, Tryz.results14, asAddr, Act.put, loadEo (setRow_heap z6 X _ cs _ _ (unhide HE2).1) hsz]) rfl ?_
   rw [unhide HRS]
   exact (unhide HE2).2
  ·rw [h4] at p0
   clear h4
   go_wp2_with fail
   refine (unhide CE).mono ?_
   rintro r z6 ⟨u1, u2, us, ut, rfl, hE'⟩
   have hE : EvA z EV (.returned (.agg (eoC EV.e u1 u2 us ut EV.cd))) z6 := ⟨u1, u2, us, ut, rfl, hE'⟩
   clear hE'
   generalize eoC EV.e u1 u2 us ut EV.cd = cs at *
   obtain ⟨hsz, hall, hX2, hEv⟩ := hE.up (unhide HZ).b (unhide HZ).x hXw
   have HE2 := hide (And.intro hX2 hEv)
   clear hE hX2 hEv CE
   go_wp2_with (first
    | (refine wpList_store_rowTo rfl 42 (.tmp 6) (.tmp 59) rfl rfl X cs rfl rfl 42 eoZ (unhide HE2).1 (by rw [hsz]; exact infoEo) (by rw [hsz]; rfl) hall ?_))
   refine bodyPost_ret (v := .agg cs) (by simp [results, Tryz.results14, asAddr, Act.put, loadEo (setRow_heap z6 X _ cs _ _ (unhide HE2).1) hsz]) rfl ?_
   rw [unhide HRS]
   exact (unhide HE2).2
 have h3 : p.code ≠ 3 := fun h => h34 (Or.inl h)
 have h4 : p.code ≠ 4 := fun h => h34 (Or.inr h)
 clear hz4 CB
 by_cases h5 : p.code = 5
 ·rw [h5] at p0
  have CE := hide (sEvent z z1 B (cxP now p [] (0, []) nilS nilS) ⟨e, F1, F2, [], []⟩ v1 v2 z4 (unhide HL4) rfl rfl (unhide HF2) ⟨#[82, 84, 82]⟩ (by decide) (fun a ha => actSAll _ a ((fsmAll (i := 10) (c := (cxP now p [] (0, []) nilS nilS)) rfl (unhide HF).2.1.1 (unhide HF).2.1.2 (fun h => absurd h (by decide)) (fun h => absurd h (by decide))).1 a ha)) (fsmAll (i := 10) (c := (cxP now p [] (0, []) nilS nilS)) rfl (unhide HF).2.1.1 (unhide HF).2.1.2 (fun h => absurd h (by decide)) (fun h => absurd h (by decide))).2)
  have HRS : Hid (RES = evF (cxP now p [] (0, []) nilS nilS) ⟨e, F1, F2, [], []⟩ ⟨#[82, 84, 82]⟩) := hide (by
   rw [← unhide HR]
   unfold hearF
   rw [if_pos (unhide HOK), if_neg (by have := unhide HST; omega)]
   unfold hearP
   rw [if_neg h1, if_neg h2, if_neg h34, if_neg (fun h => absurd (h5.symm.trans h.1) (by decide)), if_pos h5]
   rfl)
  generalize evF (cxP now p [] (0, []) nilS nilS) ⟨e, F1, F2, [], []⟩ ⟨#[82, 84, 82]⟩ = EV at *
  go_wp2_with fail
  refine (unhide CE).mono ?_
  rintro r z6 ⟨u1, u2, us, ut, rfl, hE'⟩
  have hE : EvA z EV (.returned (.agg (eoC EV.e u1 u2 us ut EV.cd))) z6 := ⟨u1, u2, us, ut, rfl, hE'⟩
  clear hE'
  generalize eoC EV.e u1 u2 us ut EV.cd = cs at *
  obtain ⟨hsz, hall, hX2, hEv⟩ := hE.up (unhide HZ).b (unhide HZ).x hXw
  have HE2 := hide (And.intro hX2 hEv)
  clear hE hX2 hEv CE
  go_wp2_with (first
   | (refine wpList_store_rowTo rfl 42 (.tmp 6) (.tmp 63) rfl rfl X cs rfl rfl 42 eoZ (unhide HE2).1 (by rw [hsz]; exact infoEo) (by rw [hsz]; rfl) hall ?_))
  refine bodyPost_ret (v := .agg cs) (by simp [results, Tryz.results14, asAddr, Act.put, loadEo (setRow_heap z6 X _ cs _ _ (unhide HE2).1) hsz]) rfl ?_
  rw [unhide HRS]
  exact (unhide HE2).2
 by_cases h6 : p.code = 6
 ·rw [h6] at p0
  have CE := hide (sEvent z z1 B (cxP now p [] (0, []) nilS nilS) ⟨e, F1, F2, [], []⟩ v1 v2 z4 (unhide HL4) rfl rfl (unhide HF2) ⟨#[82, 84, 65]⟩ (by decide) (fun a ha => actSAll _ a ((fsmAll (i := 11) (c := (cxP now p [] (0, []) nilS nilS)) rfl (unhide HF).2.1.1 (unhide HF).2.1.2 (fun h => absurd h (by decide)) (fun h => absurd h (by decide))).1 a ha)) (fsmAll (i := 11) (c := (cxP now p [] (0, []) nilS nilS)) rfl (unhide HF).2.1.1 (unhide HF).2.1.2 (fun h => absurd h (by decide)) (fun h => absurd h (by decide))).2)
  have HRS : Hid (RES = evF (cxP now p [] (0, []) nilS nilS) ⟨e, F1, F2, [], []⟩ ⟨#[82, 84, 65]⟩) := hide (by
   rw [← unhide HR]
   unfold hearF
   rw [if_pos (unhide HOK), if_neg (by have := unhide HST; omega)]
   unfold hearP
   rw [if_neg h1, if_neg h2, if_neg h34, if_neg (fun h => absurd (h6.symm.trans h.1) (by decide)), if_neg h5, if_pos h6]
   rfl)
  generalize evF (cxP now p [] (0, []) nilS nilS) ⟨e, F1, F2, [], []⟩ ⟨#[82, 84, 65]⟩ = EV at *
  go_wp2_with fail
  refine (unhide CE).mono ?_
  rintro r z6 ⟨u1, u2, us, ut, rfl, hE'⟩
  have hE : EvA z EV (.returned (.agg (eoC EV.e u1 u2 us ut EV.cd))) z6 := ⟨u1, u2, us, ut, rfl, hE'⟩
  clear hE'
  generalize eoC EV.e u1 u2 us ut EV.cd = cs at *
  obtain ⟨hsz, hall, hX2, hEv⟩ := hE.up (unhide HZ).b (unhide HZ).x hXw
  have HE2 := hide (And.intro hX2 hEv)
  clear hE hX2 hEv CE
  go_wp2_with (first
   | (refine wpList_store_rowTo rfl 42 (.tmp 6) (.tmp 67) rfl rfl X cs rfl rfl 42 eoZ (unhide HE2).1 (by rw [hsz]; exact infoEo) (by rw [hsz]; rfl) hall ?_))
  refine bodyPost_ret (v := .agg cs) (by simp [results, Tryz.results14, asAddr, Act.put, loadEo (setRow_heap z6 X _ cs _ _ (unhide HE2).1) hsz]) rfl ?_
  rw [unhide HRS]
  exact (unhide HE2).2
 by_cases h7 : p.code = 7
 ·rw [h7] at p0
  by_cases hz : p.data.size = 0
  ·have ht0 : p.data = ⟨#[]⟩ := by
    apply ByteArray.ext
    exact Array.eq_empty_of_size_eq_zero hz
   rw [ht0] at p2
   go_wp2_with (first
    | (refine wpList_buildTo rfl 42 _ rfl (some 73) rfl (eoC enZero (.slice none 0 0) (.slice none 0 0) (.slice none 0 0) (.slice none 0 0) 4) (by as_aux_lemma => kernel_rfl) ?_)
    | (refine wpList_store_rowTo rfl 42 (.tmp 6) (.tmp 73) rfl rfl X (eoC enZero (.slice none 0 0) (.slice none 0 0) (.slice none 0 0) (.slice none 0 0) 4) rfl rfl 42 eoZ (unhide KX _ (unhide HL4).low).1 infoEo rfl (eoC_all _ _ _ _ _ _ _ _ _ _ _ _ _ _) ?_))
   refine bodyPost_ret (v := .agg (eoC enZero (.slice none 0 0) (.slice none 0 0) (.slice none 0 0) (.slice none 0 0) 4)) (by simp [results, Tryz.results14, asAddr, Act.put, loadEo (setRow_heap z4 X _ (eoC enZero (.slice none 0 0) (.slice none 0 0) (.slice none 0 0) (.slice none 0 0) 4) _ _ (unhide KX _ (unhide HL4).low).1)]) rfl ?_
   have hres : RES = eoErr 4 := by
    rw [← unhide HR]
    unfold hearF
    rw [if_pos (unhide HOK), if_neg (by have := unhide HST; omega)]
    unfold hearP
    rw [if_neg h1, if_neg h2, if_neg h34, if_pos ⟨h7, hz⟩]
   rw [hres]
   exact evErr (below_row (unhide KX _ (unhide HL4).low).2 hXw _) 4
  ·have HD : Hid (¬ (p.code = 7 ∧ p.data.size = 0)) := hide fun h => hz h.2
   obtain ⟨t, ht⟩ : ∃ t, p.data = t := ⟨_, rfl⟩
   have HB : Hid (hardB p.data = hardB t) := hide (by rw [ht])
   rw [ht] at p2 hz
   clear ht
   obtain ⟨⟨l⟩⟩ := t
   cases l with
   | nil => exact absurd rfl hz
   | cons b l =>
    clear hz
    have d0 : (ByteArray.mk ⟨b :: l⟩).toList.isEmpty = false := by rw [ByteArray.toList_eq]; rfl
    have d00 : ((ByteArray.mk ⟨b :: l⟩).toList == []) = false := by rw [ByteArray.toList_eq]; rfl
    have d3 : 0 < (ByteArray.mk ⟨b :: l⟩).size := by show 0 < l.length + 1; omega
    have d4 : ¬ ((ByteArray.mk ⟨b :: l⟩).size = 0) := by omega
    have hbg : (ByteArray.mk ⟨b :: l⟩)[0]'d3 = b := rfl
    have hhb : hardB ⟨⟨b :: l⟩⟩ = decide (1 ≤ b.toNat ∧ b.toNat ≤ 7) := rfl
    by_cases hlo : 1 ≤ b.toNat
    ·by_cases hhi : b.toNat ≤ 7
     ·have HHD : Hid (hardB p.data = true) := hide (by rw [unhide HB, hhb]; exact decide_eq_true ⟨hlo, hhi⟩)
      have q1 : (1 : Int) ≤ (b.toNat : Int) := by omega
      have q2 : (b.toNat : Int) ≤ 7 := by omega
      have q3 : (1 : Int) ≤ (((ByteArray.mk ⟨b :: l⟩)[0]'d3).toNat : Int) := q1
      have q4 : (((ByteArray.mk ⟨b :: l⟩)[0]'d3).toNat : Int) ≤ 7 := q2
      clear hlo hhi hbg hhb
      have CE := hide (sEvent z z1 B (cxP now p [] (0, []) nilS nilS) ⟨e, F1, F2, [], []⟩ v1 v2 z4 (unhide HL4) rfl rfl (unhide HF2) ⟨#[82, 88, 74, 45]⟩ (by decide) (fun a ha => actSAll _ a ((fsmAll (i := 14) (c := (cxP now p [] (0, []) nilS nilS)) rfl (unhide HF).2.1.1 (unhide HF).2.1.2 (fun h => absurd h (by decide)) (fun h => absurd h (by decide))).1 a ha)) (fsmAll (i := 14) (c := (cxP now p [] (0, []) nilS nilS)) rfl (unhide HF).2.1.1 (unhide HF).2.1.2 (fun h => absurd h (by decide)) (fun h => absurd h (by decide))).2)
      have HRS : Hid (RES = evF (cxP now p [] (0, []) nilS nilS) ⟨e, F1, F2, [], []⟩ ⟨#[82, 88, 74, 45]⟩) := hide (by
       rw [← unhide HR]
       unfold hearF
       rw [if_pos (unhide HOK), if_neg (by have := unhide HST; omega)]
       unfold hearP
       rw [if_neg h1, if_neg h2, if_neg h34, if_neg (unhide HD), if_neg h5, if_neg h6, if_pos h7, if_pos (unhide HHD)]
       rfl)
      generalize evF (cxP now p [] (0, []) nilS nilS) ⟨e, F1, F2, [], []⟩ ⟨#[82, 88, 74, 45]⟩ = EV at *
      go_wp2_with fail
      refine (unhide CE).mono ?_
      rintro r z6 ⟨u1, u2, us, ut, rfl, hE'⟩
      have hE : EvA z EV (.returned (.agg (eoC EV.e u1 u2 us ut EV.cd))) z6 := ⟨u1, u2, us, ut, rfl, hE'⟩
      clear hE'
      generalize eoC EV.e u1 u2 us ut EV.cd = cs at *
      obtain ⟨hsz, hall, hX2, hEv⟩ := hE.up (unhide HZ).b (unhide HZ).x hXw
      have HE2 := hide (And.intro hX2 hEv)
      clear hE hX2 hEv CE
      go_wp2_with (first
       | (refine wpList_store_rowTo rfl 42 (.tmp 6) (.tmp 85) rfl rfl X cs rfl rfl 42 eoZ (unhide HE2).1 (by rw [hsz]; exact infoEo) (by rw [hsz]; rfl) hall ?_))
      refine bodyPost_ret (v := .agg cs) (by simp [results, Tryz.results14, asAddr, Act.put, loadEo (setRow_heap z6 X _ cs _ _ (unhide HE2).1) hsz]) rfl ?_
      rw [unhide HRS]
      exact (unhide HE2).2
     ·have HHD : Hid (¬ hardB p.data = true) := hide (by rw [unhide HB, hhb]; intro h; exact hhi (of_decide_eq_true h).2)
      have q1 : (1 : Int) ≤ (b.toNat : Int) := by omega
      have q2 : ¬ ((b.toNat : Int) ≤ 7) := by omega
      have q3 : (1 : Int) ≤ (((ByteArray.mk ⟨b :: l⟩)[0]'d3).toNat : Int) := q1
      have q4 : ¬ ((((ByteArray.mk ⟨b :: l⟩)[0]'d3).toNat : Int) ≤ 7) := q2
      clear hlo hhi hbg hhb
      have CE := hide (sEvent z z1 B (cxP now p [] (0, []) nilS nilS) ⟨e, F1, F2, [], []⟩ v1 v2 z4 (unhide HL4) rfl rfl (unhide HF2) ⟨#[82, 88, 74, 43]⟩ (by decide) (fun a ha => actSAll _ a ((fsmAll (i := 13) (c := (cxP now p [] (0, []) nilS nilS)) rfl (unhide HF).2.1.1 (unhide HF).2.1.2 (fun h => absurd h (by decide)) (fun h => absurd h (by decide))).1 a ha)) (fsmAll (i := 13) (c := (cxP now p [] (0, []) nilS nilS)) rfl (unhide HF).2.1.1 (unhide HF).2.1.2 (fun h => absurd h (by decide)) (fun h => absurd h (by decide))).2)
      have HRS : Hid (RES = evF (cxP now p [] (0, []) nilS nilS) ⟨e, F1, F2, [], []⟩ ⟨#[82, 88, 74, 43]⟩) := hide (by
       rw [← unhide HR]
       unfold hearF
       rw [if_pos (unhide HOK), if_neg (by have := unhide HST; omega)]
       unfold hearP
       rw [if_neg h1, if_neg h2, if_neg h34, if_neg (unhide HD), if_neg h5, if_neg h6, if_pos h7, if_neg (unhide HHD)]
       rfl)
      generalize evF (cxP now p [] (0, []) nilS nilS) ⟨e, F1, F2, [], []⟩ ⟨#[82, 88, 74, 43]⟩ = EV at *
      go_wp2_with fail
      refine (unhide CE).mono ?_
      rintro r z6 ⟨u1, u2, us, ut, rfl, hE'⟩
      have hE : EvA z EV (.returned (.agg (eoC EV.e u1 u2 us ut EV.cd))) z6 := ⟨u1, u2, us, ut, rfl, hE'⟩
      clear hE'
      generalize eoC EV.e u1 u2 us ut EV.cd = cs at *
      obtain ⟨hsz, hall, hX2, hEv⟩ := hE.up (unhide HZ).b (unhide HZ).x hXw
      have HE2 := hide (And.intro hX2 hEv)
      clear hE hX2 hEv CE
      go_wp2_with (first
       | (refine wpList_store_rowTo rfl 42 (.tmp 6) (.tmp 87) rfl rfl X cs rfl rfl 42 eoZ (unhide HE2).1 (by rw [hsz]; exact infoEo) (by rw [hsz]; rfl) hall ?_))
      refine bodyPost_ret (v := .agg cs) (by simp [results, Tryz.results14, asAddr, Act.put, loadEo (setRow_heap z6 X _ cs _ _ (unhide HE2).1) hsz]) rfl ?_
      rw [unhide HRS]
      exact (unhide HE2).2
    ·have HHD : Hid (¬ hardB p.data = true) := hide (by rw [unhide HB, hhb]; intro h; exact hlo (of_decide_eq_true h).1)
     have q1 : ¬ ((1 : Int) ≤ (b.toNat : Int)) := by omega
     have q3 : ¬ ((1 : Int) ≤ (((ByteArray.mk ⟨b :: l⟩)[0]'d3).toNat : Int)) := q1
     clear hlo hbg hhb
     have CE := hide (sEvent z z1 B (cxP now p [] (0, []) nilS nilS) ⟨e, F1, F2, [], []⟩ v1 v2 z4 (unhide HL4) rfl rfl (unhide HF2) ⟨#[82, 88, 74, 43]⟩ (by decide) (fun a ha => actSAll _ a ((fsmAll (i := 13) (c := (cxP now p [] (0, []) nilS nilS)) rfl (unhide HF).2.1.1 (unhide HF).2.1.2 (fun h => absurd h (by decide)) (fun h => absurd h (by decide))).1 a ha)) (fsmAll (i := 13) (c := (cxP now p [] (0, []) nilS nilS)) rfl (unhide HF).2.1.1 (unhide HF).2.1.2 (fun h => absurd h (by decide)) (fun h => absurd h (by decide))).2)
     have HRS : Hid (RES = evF (cxP now p [] (0, []) nilS nilS) ⟨e, F1, F2, [], []⟩ ⟨#[82, 88, 74, 43]⟩) := hide (by
      rw [← unhide HR]
      unfold hearF
      rw [if_pos (unhide HOK), if_neg (by have := unhide HST; omega)]
      unfold hearP
      rw [if_neg h1, if_neg h2, if_neg h34, if_neg (unhide HD), if_neg h5, if_neg h6, if_pos h7, if_neg (unhide HHD)]
      rfl)
     generalize evF (cxP now p [] (0, []) nilS nilS) ⟨e, F1, F2, [], []⟩ ⟨#[82, 88, 74, 43]⟩ = EV at *
     go_wp2_with fail
     refine (unhide CE).mono ?_
     rintro r z6 ⟨u1, u2, us, ut, rfl, hE'⟩
     have hE : EvA z EV (.returned (.agg (eoC EV.e u1 u2 us ut EV.cd))) z6 := ⟨u1, u2, us, ut, rfl, hE'⟩
     clear hE'
     generalize eoC EV.e u1 u2 us ut EV.cd = cs at *
     obtain ⟨hsz, hall, hX2, hEv⟩ := hE.up (unhide HZ).b (unhide HZ).x hXw
     have HE2 := hide (And.intro hX2 hEv)
     clear hE hX2 hEv CE
     go_wp2_with (first
      | (refine wpList_store_rowTo rfl 42 (.tmp 6) (.tmp 87) rfl rfl X cs rfl rfl 42 eoZ (unhide HE2).1 (by rw [hsz]; exact infoEo) (by rw [hsz]; rfl) hall ?_))
     refine bodyPost_ret (v := .agg cs) (by simp [results, Tryz.results14, asAddr, Act.put, loadEo (setRow_heap z6 X _ cs _ _ (unhide HE2).1) hsz]) rfl ?_
     rw [unhide HRS]
     exact (unhide HE2).2
 by_cases h9 : p.code = 9
 ·rw [h9] at p0
  have CE := hide (sEvent z z1 B (cxP now p [] (0, []) nilS nilS) ⟨e, F1, F2, [], []⟩ v1 v2 z4 (unhide HL4) rfl rfl (unhide HF2) ⟨#[82, 88, 82]⟩ (by decide) (fun a ha => actSAll _ a ((fsmAll (i := 15) (c := (cxP now p [] (0, []) nilS nilS)) rfl (unhide HF).2.1.1 (unhide HF).2.1.2 (fun h => absurd h (by decide)) (fun h => absurd h (by decide))).1 a ha)) (fsmAll (i := 15) (c := (cxP now p [] (0, []) nilS nilS)) rfl (unhide HF).2.1.1 (unhide HF).2.1.2 (fun h => absurd h (by decide)) (fun h => absurd h (by decide))).2)
  have HRS : Hid (RES = evF (cxP now p [] (0, []) nilS nilS) ⟨e, F1, F2, [], []⟩ ⟨#[82, 88, 82]⟩) := hide (by
   rw [← unhide HR]
   unfold hearF
   rw [if_pos (unhide HOK), if_neg (by have := unhide HST; omega)]
   unfold hearP
   rw [if_neg h1, if_neg h2, if_neg h34, if_neg (fun h => absurd (h9.symm.trans h.1) (by decide)), if_neg h5, if_neg h6, if_neg h7, if_pos (Or.inl h9)]
   rfl)
  generalize evF (cxP now p [] (0, []) nilS nilS) ⟨e, F1, F2, [], []⟩ ⟨#[82, 88, 82]⟩ = EV at *
  go_wp2_with fail
  refine (unhide CE).mono ?_
  rintro r z6 ⟨u1, u2, us, ut, rfl, hE'⟩
  have hE : EvA z EV (.returned (.agg (eoC EV.e u1 u2 us ut EV.cd))) z6 := ⟨u1, u2, us, ut, rfl, hE'⟩
  clear hE'
  generalize eoC EV.e u1 u2 us ut EV.cd = cs at *
  obtain ⟨hsz, hall, hX2, hEv⟩ := hE.up (unhide HZ).b (unhide HZ).x hXw
  have HE2 := hide (And.intro hX2 hEv)
  clear hE hX2 hEv CE
  go_wp2_with (first
   | (refine wpList_store_rowTo rfl 42 (.tmp 6) (.tmp 93) rfl rfl X cs rfl rfl 42 eoZ (unhide HE2).1 (by rw [hsz]; exact infoEo) (by rw [hsz]; rfl) hall ?_))
  refine bodyPost_ret (v := .agg cs) (by simp [results, Tryz.results14, asAddr, Act.put, loadEo (setRow_heap z6 X _ cs _ _ (unhide HE2).1) hsz]) rfl ?_
  rw [unhide HRS]
  exact (unhide HE2).2
 by_cases h10 : p.code = 10
 ·rw [h10] at p0
  have CE := hide (sEvent z z1 B (cxP now p [] (0, []) nilS nilS) ⟨e, F1, F2, [], []⟩ v1 v2 z4 (unhide HL4) rfl rfl (unhide HF2) ⟨#[82, 88, 82]⟩ (by decide) (fun a ha => actSAll _ a ((fsmAll (i := 15) (c := (cxP now p [] (0, []) nilS nilS)) rfl (unhide HF).2.1.1 (unhide HF).2.1.2 (fun h => absurd h (by decide)) (fun h => absurd h (by decide))).1 a ha)) (fsmAll (i := 15) (c := (cxP now p [] (0, []) nilS nilS)) rfl (unhide HF).2.1.1 (unhide HF).2.1.2 (fun h => absurd h (by decide)) (fun h => absurd h (by decide))).2)
  have HRS : Hid (RES = evF (cxP now p [] (0, []) nilS nilS) ⟨e, F1, F2, [], []⟩ ⟨#[82, 88, 82]⟩) := hide (by
   rw [← unhide HR]
   unfold hearF
   rw [if_pos (unhide HOK), if_neg (by have := unhide HST; omega)]
   unfold hearP
   rw [if_neg h1, if_neg h2, if_neg h34, if_neg (fun h => absurd (h10.symm.trans h.1) (by decide)), if_neg h5, if_neg h6, if_neg h7, if_pos (Or.inr (Or.inl h10))]
   rfl)
  generalize evF (cxP now p [] (0, []) nilS nilS) ⟨e, F1, F2, [], []⟩ ⟨#[82, 88, 82]⟩ = EV at *
  go_wp2_with fail
  refine (unhide CE).mono ?_
  rintro r z6 ⟨u1, u2, us, ut, rfl, hE'⟩
  have hE : EvA z EV (.returned (.agg (eoC EV.e u1 u2 us ut EV.cd))) z6 := ⟨u1, u2, us, ut, rfl, hE'⟩
  clear hE'
  generalize eoC EV.e u1 u2 us ut EV.cd = cs at *
  obtain ⟨hsz, hall, hX2, hEv⟩ := hE.up (unhide HZ).b (unhide HZ).x hXw
  have HE2 := hide (And.intro hX2 hEv)
  clear hE hX2 hEv CE
  go_wp2_with (first
   | (refine wpList_store_rowTo rfl 42 (.tmp 6) (.tmp 93) rfl rfl X cs rfl rfl 42 eoZ (unhide HE2).1 (by rw [hsz]; exact infoEo) (by rw [hsz]; rfl) hall ?_))
  refine bodyPost_ret (v := .agg cs) (by simp [results, Tryz.results14, asAddr, Act.put, loadEo (setRow_heap z6 X _ cs _ _ (unhide HE2).1) hsz]) rfl ?_
  rw [unhide HRS]
  exact (unhide HE2).2
 by_cases h11 : p.code = 11
 ·rw [h11] at p0
  have CE := hide (sEvent z z1 B (cxP now p [] (0, []) nilS nilS) ⟨e, F1, F2, [], []⟩ v1 v2 z4 (unhide HL4) rfl rfl (unhide HF2) ⟨#[82, 88, 82]⟩ (by decide) (fun a ha => actSAll _ a ((fsmAll (i := 15) (c := (cxP now p [] (0, []) nilS nilS)) rfl (unhide HF).2.1.1 (unhide HF).2.1.2 (fun h => absurd h (by decide)) (fun h => absurd h (by decide))).1 a ha)) (fsmAll (i := 15) (c := (cxP now p [] (0, []) nilS nilS)) rfl (unhide HF).2.1.1 (unhide HF).2.1.2 (fun h => absurd h (by decide)) (fun h => absurd h (by decide))).2)
  have HRS : Hid (RES = evF (cxP now p [] (0, []) nilS nilS) ⟨e, F1, F2, [], []⟩ ⟨#[82, 88, 82]⟩) := hide (by
   rw [← unhide HR]
   unfold hearF
   rw [if_pos (unhide HOK), if_neg (by have := unhide HST; omega)]
   unfold hearP
   rw [if_neg h1, if_neg h2, if_neg h34, if_neg (fun h => absurd (h11.symm.trans h.1) (by decide)), if_neg h5, if_neg h6, if_neg h7, if_pos (Or.inr (Or.inr h11))]
   rfl)
  generalize evF (cxP now p [] (0, []) nilS nilS) ⟨e, F1, F2, [], []⟩ ⟨#[82, 88, 82]⟩ = EV at *
  go_wp2_with fail
  refine (unhide CE).mono ?_
  rintro r z6 ⟨u1, u2, us, ut, rfl, hE'⟩
  have hE : EvA z EV (.returned (.agg (eoC EV.e u1 u2 us ut EV.cd))) z6 := ⟨u1, u2, us, ut, rfl, hE'⟩
  clear hE'
  generalize eoC EV.e u1 u2 us ut EV.cd = cs at *
  obtain ⟨hsz, hall, hX2, hEv⟩ := hE.up (unhide HZ).b (unhide HZ).x hXw
  have HE2 := hide (And.intro hX2 hEv)
  clear hE hX2 hEv CE
  go_wp2_with (first
   | (refine wpList_store_rowTo rfl 42 (.tmp 6) (.tmp 93) rfl rfl X cs rfl rfl 42 eoZ (unhide HE2).1 (by rw [hsz]; exact infoEo) (by rw [hsz]; rfl) hall ?_))
  refine bodyPost_ret (v := .agg cs) (by simp [results, Tryz.results14, asAddr, Act.put, loadEo (setRow_heap z6 X _ cs _ _ (unhide HE2).1) hsz]) rfl ?_
  rw [unhide HRS]
  exact (unhide HE2).2
 have b1 : (p.code == 1) = false := beq_eq_false_iff_ne.2 h1
 have b2 : (p.code == 2) = false := beq_eq_false_iff_ne.2 h2
 have b3 : (p.code == 3) = false := beq_eq_false_iff_ne.2 h3
 have b4 : (p.code == 4) = false := beq_eq_false_iff_ne.2 h4
 have b5 : (p.code == 5) = false := beq_eq_false_iff_ne.2 h5
 have b6 : (p.code == 6) = false := beq_eq_false_iff_ne.2 h6
 have b7 : (p.code == 7) = false := beq_eq_false_iff_ne.2 h7
 have b9 : (p.code == 9) = false := beq_eq_false_iff_ne.2 h9
 have b10 : (p.code == 10) = false := beq_eq_false_iff_ne.2 h10
 have b11 : (p.code == 11) = false := beq_eq_false_iff_ne.2 h11
 have CE := hide (sEvent z z1 B (cxP now p [] (0, []) nilS nilS) ⟨e, F1, F2, [], []⟩ v1 v2 z4 (unhide HL4) rfl rfl (unhide HF2) ⟨#[82, 85, 67]⟩ (by decide) (fun a ha => actSAll _ a ((fsmAll (i := 12) (c := (cxP now p [] (0, []) nilS nilS)) rfl (unhide HF).2.1.1 (unhide HF).2.1.2 (fun h => absurd h (by decide)) (fun h => absurd h (by decide))).1 a ha)) (fsmAll (i := 12) (c := (cxP now p [] (0, []) nilS nilS)) rfl (unhide HF).2.1.1 (unhide HF).2.1.2 (fun h => absurd h (by decide)) (fun h => absurd h (by decide))).2)
 have HRS : Hid (RES = evF (cxP now p [] (0, []) nilS nilS) ⟨e, F1, F2, [], []⟩ ⟨#[82, 85, 67]⟩) := hide (by
  rw [← unhide HR]
  unfold hearF
  rw [if_pos (unhide HOK), if_neg (by have := unhide HST; omega)]
  unfold hearP
  rw [if_neg h1, if_neg h2, if_neg h34, if_neg (fun h => h7 h.1), if_neg h5, if_neg h6, if_neg h7, if_neg (fun h => h.elim h9 (fun h => h.elim h10 h11))]
  rfl)
 generalize evF (cxP now p [] (0, []) nilS nilS) ⟨e, F1, F2, [], []⟩ ⟨#[82, 85, 67]⟩ = EV at *
 go_wp2_with fail
 refine (unhide CE).mono ?_
 rintro r z6 ⟨u1, u2, us, ut, rfl, hE'⟩
 have hE : EvA z EV (.returned (.agg (eoC EV.e u1 u2 us ut EV.cd))) z6 := ⟨u1, u2, us, ut, rfl, hE'⟩
 clear hE'
 generalize eoC EV.e u1 u2 us ut EV.cd = cs at *
 obtain ⟨hsz, hall, hX2, hEv⟩ := hE.up (unhide HZ).b (unhide HZ).x hXw
 have HE2 := hide (And.intro hX2 hEv)
 clear hE hX2 hEv CE
 go_wp2_with (first
  | (refine wpList_store_rowTo rfl 42 (.tmp 6) (.tmp 95) rfl rfl X cs rfl rfl 42 eoZ (unhide HE2).1 (by rw [hsz]; exact infoEo) (by rw [hsz]; rfl) hall ?_))
 refine bodyPost_ret (v := .agg cs) (by simp [results, Tryz.results14, asAddr, Act.put, loadEo (setRow_heap z6 X _ cs _ _ (unhide HE2).1) hsz]) rfl ?_
 rw [unhide HRS]
 exact (unhide HE2).2
end Go.Proofs.YtahpjlbaagkdoaaGreatDoor
