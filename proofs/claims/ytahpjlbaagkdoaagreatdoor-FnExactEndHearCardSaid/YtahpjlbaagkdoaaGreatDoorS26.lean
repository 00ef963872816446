/- The model's actions that answer a packet; what lay in memory stands. -/
import Derived.Test.YtahpjlbaagkdoaaGreatDoorS25
import Derived.Test.YtahpjlbaagkdoaaGreatDoorShW
namespace Go.Proofs.YtahpjlbaagkdoaaGreatDoor
open Go.RowKit
theorem ptV_size (c : Cx) (h : c.cd.size ≤ 250) : (ptV ⟨c.cc, c.ci, c.cd⟩).size ≤ 100000 := by
  cases hk : Op.pok ⟨c.cc, c.ci, c.cd⟩
  · rw [ptV_no hk]; decide
  · rw [ptV_yes hk, ByteArray.size_append]
    have e : (txt (Op.phead ⟨c.cc, c.ci, c.cd⟩)).size = (Op.phead ⟨c.cc, c.ci, c.cd⟩).length := by unfold txt; show (Op.phead ⟨c.cc, c.ci, c.cd⟩).toArray.size = _; simp
    have e2 : (Op.phead ⟨c.cc, c.ci, c.cd⟩).length = 4 := rfl
    rw [e, e2]
    show 4 + c.cd.size ≤ 100000
    omega
section
variable {w0 w1 : World} {B : Nat} {c : Cx} {s : St} {v1 v2 vs vt : Value} {q : World}
theorem Lay.new2 {T : TypeId} {q' : World} (h : Lay T w0 w1 B c s v1 v2 vs vt q) (hb : Below q.heap.size q q') (v : Value) (F : List Op.Opt) (ho : q'.ownsRow q.heap.size 116 2 v F.length (ocells F)) : Lay T w0 w1 B c { s with F2 := F } v1 v vs vt (q'.setCell ⟨B, 18, none⟩ v) := by
  have h' := h.step hb
  have hr := heap_setCell_same q' B 18 _ _ v h'.row
  rw [List.setIfInBounds_toArray] at hr
  have hk : ∀ k, k ≠ B → (q'.setCell ⟨B, 18, none⟩ v).heap[k]? = q'.heap[k]? := fun k hk => heap_setCell_other q' _ _ _ hk
  have hs := h.low.size
  refine ⟨hr, own_other h'.o1 fun g hg => hk g fun e => own_ty h'.o1 h'.row h.tt.1 (e ▸ hg), own_other (own_mono ho hs) fun g hg => hk g fun e => ?_, own_other h'.os fun g hg => hk g fun e => own_ty h'.os h'.row h.tt.2.1 (e ▸ hg), own_other h'.ot fun g hg => hk g fun e => own_ty h'.ot h'.row h.tt.2.2 (e ▸ hg), own_other h'.oh fun g hg => hk g fun e => own_ty h'.oh h'.row h.tt.1 (e ▸ hg), hold_ty h'.ha h'.row h.tt.1 fun k _ => hk k, h.hB, h.tt, fun g hg e => ?_, h.aph, h.lo, h'.nr.setCell 18 v⟩
  · exact own_ty ho h'.row h.tt.1 (e ▸ hg)
  · have h1 := (ho.lt g e).1
    have h2 := (h.o1.lt g hg).2
    omega
set_option maxRecDepth 100000 in
theorem upC_wk (c : Cx) (e : En) (L1 L2 : Ln) (v1 v2 vs vt : Value) : upC L1 L2 (wkC c e v1 v2 vs vt) = wkC c (upE L1 L2 e) v1 v2 vs vt := by
  unfold upC wkC upE
  simp only [List.set_cons_zero, List.set_cons_succ]
theorem sUp (h : Lay 89 w0 w1 B c s v1 v2 vs vt q) {n : Nat} (hf : Fit n c s) :
    Calls Tryz.prog 127 #[.pointer (some ⟨B, 0, none⟩), .bool true] q fun r q' => r = .returned (.tuple #[]) ∧ Lay 89 w0 w1 B c { s with e := upE (lineOf s.F1) (lineOf s.F2) s.e } v1 v2 vs vt q' := by
  obtain ⟨a1, p1, e1⟩ := own_form h.o1
  obtain ⟨a2, p2, e2⟩ := own_form h.o2
  subst e1 e2
  have l20 : ∀ F, opOk F = true → F.length ≤ maxLen := fun F hF => by
    have := opOk_right hF
    unfold Op.right at this
    rw [Bool.and_eq_true] at this
    have := of_decide_eq_true this.1
    unfold maxLen
    omega
  have n1 : nb s.F1.length (.slice a1 s.F1.length p1) ≠ some B := fun e => own_ty h.o1 h.row h.tt.1 (by unfold nb at e; split at e; cases e; exact e)
  have n2 : nb s.F2.length (.slice a2 s.F2.length p2) ≠ some B := fun e => own_ty h.o2 h.row h.tt.1 (by unfold nb at e; split at e; cases e; exact e)
  refine (wkUp B (wkC c s.e _ _ vs vt) a1 a2 p1 p2 s.F1 s.F2 q rfl h.row rfl rfl (l20 _ hf.f1) (l20 _ hf.f2) (HoldsO.own h.o1) (HoldsO.own h.o2) n1 n2).mono ?_
  rintro r q' ⟨h1, h2, h3⟩
  rw [upC_wk] at h2
  exact ⟨h1, h.ofNr h2 h3⟩
set_option maxHeartbeats 4000000 in
set_option maxRecDepth 100000 in
theorem sSta (h : Lay 89 w0 w1 B c s v1 v2 vs vt q) {n : Nat} (hf : Fit n c s) (hn : n ≤ 1000) :
    Calls Tryz.prog 90 #[.pointer (some ⟨B, 0, none⟩), .string nSta] q fun r q' => r = .returned (.tuple #[]) ∧ ∃ v1 v2 vs vt, Lay 89 w0 w1 B c (doSta c s) v1 v2 vs vt q' := by
  have c32 := h.cell (i := 32) rfl
  have HF := hide hf
  have HL := hide h
  clear h hf
  go_enter Tryz.func90, Tryz.ntmps90
  go_wp2_with fail
  refine (sPut (unhide HL) (Nat.le_trans (unhide HF).sn hn) 6 _ _).mono ?_
  rintro r q1 ⟨rfl, vs1, h1⟩
  go_wp2
  exact Great.bodyPost_end0 rfl rfl ⟨rfl, _, _, _, _, h1⟩
set_option maxHeartbeats 4000000 in
set_option maxRecDepth 100000 in
theorem sTlu (h : Lay 89 w0 w1 B c s v1 v2 vs vt q) {n : Nat} (hf : Fit n c s) (hn : n ≤ 1000) :
    Calls Tryz.prog 90 #[.pointer (some ⟨B, 0, none⟩), .string nTlu] q fun r q' => r = .returned (.tuple #[]) ∧ ∃ v1 v2 vs vt, Lay 89 w0 w1 B c (doTlu s) v1 v2 vs vt q' := by
  have HF := hide hf
  have HL0 := hide h
  clear h hf
  go_enter Tryz.func90, Tryz.ntmps90
  go_wp2_with fail
  refine (sUp (unhide HL0) (unhide HF)).mono ?_
  rintro r q1 ⟨rfl, h⟩
  have c38 := h.cell (i := 38) rfl
  obtain ⟨ad, cp, rfl⟩ := own_form h.ot
  have hno : s.tl.length ≤ 1000 := Nat.le_trans (unhide HF).tl hn
  obtain ⟨k, hnn⟩ : ∃ k, s.tl.length = k := ⟨_, rfl⟩
  have ho := h.ot
  dsimp only at c38 ho h
  rw [hnn] at c38 ho hno h
  have HO := hide ho
  have HL := hide h
  clear h ho HF HL0
  go_wp2_with (first
    | (at_builtin; refine append_txt rfl _ _ rfl w1.heap.size (.slice ad k cp) s.tl k hnn rfl (unhide HO) nTlu rfl (by omega) (unhide HL).nr.size ?_; rintro v6 w6 ho6 hg6; obtain ⟨a6, c6, rfl⟩ := own_form ho6
       have e6 := (hg6.block B (Nat.lt_of_lt_of_le (unhide HL).lt (by simp)) (fun e => (own_ty (unhide HL).ot (unhide HL).row (unhide HL).tt.2.2) e.symm)).trans ((Below.heap_alloc _ _ _ (unhide HL).lt).trans (unhide HL).row)
       have k6 : w6.cell? ⟨B, 38, none⟩ = some (.slice ad k cp) := by rw [cell_of_row _ _ _ _ _ _ e6]; rfl
       have f6 : w6.frozen? ⟨B, 38, none⟩ = false := frz e6 38
       clear e6))
  refine Great.bodyPost_end0 rfl rfl ⟨rfl, _, _, _, _, (unhide HL).say _ hg6 _ _ ?_⟩
  rw [List.length_append, hnn]
  exact ho6
set_option maxHeartbeats 4000000 in
set_option maxRecDepth 100000 in
theorem sScj (h : Lay 89 w0 w1 B c s v1 v2 vs vt q) {n : Nat} (hf : Fit n c s) (hn : n ≤ 1000) :
    Calls Tryz.prog 90 #[.pointer (some ⟨B, 0, none⟩), .string nScj] q fun r q' => r = .returned (.tuple #[]) ∧ ∃ v1 v2 vs vt, Lay 89 w0 w1 B c (doScj (cameT c) s) v1 v2 vs vt q' := by
  have HF := hide hf
  have hpt := ptV_size c (unhide HF).cd
  have HL1 := hide h
  clear h hf
  go_enter Tryz.func90, Tryz.ntmps90
  go_upto_region 26 with fail
  refine gen_world (fun z => Lay 89 w0 w1 B c s v1 v2 vs vt z) ?_ ?_
  · exact unhide HL1
  clear HL1
  rintro z hz
  have c31 := hz.cell (i := 31) rfl
  have c32 := hz.cell (i := 32) rfl
  have c33 := hz.cell (i := 33) rfl
  have HZ := hide (hz.step (Below.refl _ _).drew)
  clear hz
  refine wp_region_held_drew (S := fun z => z.cell? ⟨B, 31, none⟩ = some (.int .i64 c.cc) ∧ z.cell? ⟨B, 32, none⟩ = some (.int .i64 c.ci) ∧ z.cell? ⟨B, 33, none⟩ = some (.string c.cd)) (by kernel_rfl) ?_ (fun hHeld => ?_)
  · exact ⟨c31, c32, c33⟩
  refine tk 0 (v := ?vj0) rfl ?hyj0 ?_
  case hyj0 => intro w hSw; (try dsimp only at hSw); go_simp; try with_reducible rfl
  try simp only [Act.put, sA, sZ, sS, gA, gZ]
  refine tk 1 (v := ?vj1) rfl ?hyj1 ?_
  case hyj1 => intro w hSw; (try dsimp only at hSw); go_simp; try with_reducible rfl
  try simp only [Act.put, sA, sZ, sS, gA, gZ, gS]
  refine tk 3 (v := ?vj3) rfl ?hyj3 ?_
  case hyj3 => intro w hSw; (try dsimp only at hSw); go_simp; try with_reducible rfl
  try simp only [Act.put, sA, sZ, sS, gA, gZ, gS]
  refine tk 4 (v := ?vj4) rfl ?hyj4 ?_
  case hyj4 => intro w hSw; (try dsimp only at hSw); go_simp; try with_reducible rfl
  try simp only [Act.put, sA, sZ, sS, gA, gZ, gS]
  refine tk 5 (v := ?vj5) rfl ?hyj5 ?_
  case hyj5 => intro w hSw; (try dsimp only at hSw); go_simp; try with_reducible rfl
  try simp only [Act.put, sA, sZ, sS, gA, gZ, gS]
  refine tk 6 (v := ?vj6) rfl ?hyj6 ?_
  case hyj6 => intro w hSw; (try dsimp only at hSw); go_simp; try with_reducible rfl
  try simp only [Act.put, sA, sZ, sS, gA, gZ, gS]
  refine r1 2 rfl (fun K hK => ?_)
  go_simp
  refine (sNext (unhide HZ) (unhide HF).id).mono ?_
  rintro r z1 ⟨rfl, h1⟩
  have HZ1 := hide h1
  clear h1
  go_wp2_with fail
  refine hK.out _ _ ?_ (fun _ => ?_)
  · exact ⟨(unhide HZ1).cell (i := 31) rfl, (unhide HZ1).cell (i := 32) rfl, (unhide HZ1).cell (i := 33) rfl⟩
  clear hK K
  try simp only [Act.put, sA, sZ, sS, gA, gZ, gS]
  refine r1 7 rfl (fun K hK => ?_)
  go_simp
  refine (specPkBytes ⟨c.cc, c.ci, c.cd⟩ _).mono ?_
  rintro r z2 ⟨rfl, hb⟩
  have HZ2 := hide ((unhide HZ1).step hb)
  clear hb
  go_wp2_with fail
  refine hK.out _ _ ?_ (fun _ => ?_)
  · exact ⟨(unhide HZ2).cell (i := 31) rfl, (unhide HZ2).cell (i := 32) rfl, (unhide HZ2).cell (i := 33) rfl⟩
  clear hK K
  try simp only [Act.put, sA, sZ, sS, gA, gZ, gS]
  refine r1 8 rfl (fun K hK => ?_)
  go_simp
  refine (specFirst (ptV ⟨c.cc, c.ci, c.cd⟩) _ hpt).mono ?_
  rintro r z3 ⟨rfl, hws⟩
  replace hws := hws.symm
  subst hws
  go_wp2_with fail
  refine hK.out _ _ ?_ (fun _ => ?_)
  · exact ⟨(unhide HZ2).cell (i := 31) rfl, (unhide HZ2).cell (i := 32) rfl, (unhide HZ2).cell (i := 33) rfl⟩
  clear hK K
  try simp only [Act.put, sA, sZ, sS, gA, gZ, gS]
  refine r1 9 rfl (fun K hK => ?_)
  go_simp
  refine (sPut (unhide HZ2) (Nat.le_trans (unhide HF).sn hn) 7 _ _).mono ?_
  rintro r z4 ⟨rfl, vs4, h4⟩
  have HP := hide h4
  clear h4
  go_wp2_with fail
  refine hK.out _ _ ?_ (fun _ => ?_)
  · exact ⟨(unhide HP).cell (i := 31) rfl, (unhide HP).cell (i := 32) rfl, (unhide HP).cell (i := 33) rfl⟩
  clear hK K
  try simp only [Act.put, sA, sZ, sS, gA, gZ, gS]
  refine wpAnyH_done (by kernel_rfl) ?_ _
  go_wp2_with fail
  exact Great.bodyPost_end0 rfl rfl ⟨rfl, _, _, _, _, unhide HP⟩
set_option maxHeartbeats 4000000 in
set_option maxRecDepth 100000 in
theorem sScn (h : Lay 89 w0 w1 B c s v1 v2 vs vt q) {n : Nat} (hf : Fit n c s) (hn : n ≤ 1000) :
    Calls Tryz.prog 90 #[.pointer (some ⟨B, 0, none⟩), .string nScn] q fun r q' => r = .returned (.tuple #[]) ∧ ∃ v1 v2 vs vt, Lay 89 w0 w1 B c (doScn c s) v1 v2 vs vt q' := by
  have HF := hide hf
  obtain ⟨a9, p9, hva⟩ := h.ha.form
  have hbz : (txt (Op.bytes c.ao)).size = (Op.bytes c.ao).length := by unfold txt; show (Op.bytes c.ao).toArray.size = _; simp
  have hb250 : (Op.bytes c.ao).length ≤ 250 := by have := hf.ao; unfold opOk at this; rw [Bool.and_eq_true] at this; exact of_decide_eq_true this.2
  have hfirst : first250 (txt (Op.bytes c.ao)) = txt (Op.bytes c.ao) := by unfold first250; rw [if_neg (by rw [hbz]; omega)]
  have c35 := h.cell (i := 35) rfl
  have c16 := h.cell (i := 16) rfl
  have f16 := h.frz 16
  have HL := hide h
  clear h hf
  go_enter Tryz.func90, Tryz.ntmps90
  by_cases hac : c.ac = 3
  · have HS : doScn c s = putS ({ s with e := { s.e with fl := min 3 (s.e.fl + 1) } }) c.ac c.ci (txt (Op.bytes c.ao)) := by unfold doScn putS; rw [if_pos hac]
    have hac2 : (c.ac == 3) = true := by simpa using hac
    have CM := hide fun W => specMin3 (s.e.fl + 1) W
    have hfl := (unhide HF).fl
    have HL1 := hide ((unhide HL).setRaw 16 (.int .i64 (min 3 (s.e.fl + 1))) { s.e with fl := min 3 (s.e.fl + 1) } rfl)
    generalize hmm : min 3 (s.e.fl + 1) = mm at *
    go_upto_region 22 with (first | (go_at_call 124; refine (unhide CM _).mono ?_; rintro r ws ⟨rfl, hws⟩; replace hws := hws.symm; subst hws))
    refine gen_world (fun z => Lay 89 w0 w1 B c ({ s with e := { s.e with fl := mm } }) v1 v2 vs vt z) ?_ ?_
    · exact unhide HL1
    clear HL1 HL c16 f16 c35
    rintro z hz
    have c32 := hz.cell (i := 32) rfl
    have c35 := hz.cell (i := 35) rfl
    have c36 := hz.cell (i := 36) (congrArg some hva)
    have HZ := hide (hz.step (Below.refl _ _).drew)
    clear hz
    refine wp_region_held_drew (S := fun z => z.cell? ⟨B, 32, none⟩ = some (.int .i64 c.ci) ∧ z.cell? ⟨B, 35, none⟩ = some (.int .i64 c.ac) ∧ z.cell? ⟨B, 36, none⟩ = some (.slice a9 c.ao.length p9)) (by kernel_rfl) ?_ (fun hHeld => ?_)
    · exact ⟨c32, c35, c36⟩
    refine tk 0 (v := ?vk0) rfl ?hyk0 ?_
    case hyk0 => intro w hSw; (try dsimp only at hSw); go_simp; try with_reducible rfl
    try simp only [Act.put, sA, sZ, sS, gA, gZ]
    refine tk 1 (v := ?vk1) rfl ?hyk1 ?_
    case hyk1 => intro w hSw; (try dsimp only at hSw); go_simp; try with_reducible rfl
    try simp only [Act.put, sA, sZ, sS, gA, gZ, gS]
    refine tk 2 (v := ?vk2) rfl ?hyk2 ?_
    case hyk2 => intro w hSw; (try dsimp only at hSw); go_simp; try with_reducible rfl
    try simp only [Act.put, sA, sZ, sS, gA, gZ, gS]
    refine tk 3 (v := ?vk3) rfl ?hyk3 ?_
    case hyk3 => intro w hSw; (try dsimp only at hSw); go_simp; try with_reducible rfl
    try simp only [Act.put, sA, sZ, sS, gA, gZ, gS]
    refine tk 4 (v := ?vk4) rfl ?hyk4 ?_
    case hyk4 => intro w hSw; (try dsimp only at hSw); go_simp; try with_reducible rfl
    try simp only [Act.put, sA, sZ, sS, gA, gZ, gS]
    refine tk 5 (v := ?vk5) rfl ?hyk5 ?_
    case hyk5 => intro w hSw; (try dsimp only at hSw); go_simp; try with_reducible rfl
    try simp only [Act.put, sA, sZ, sS, gA, gZ, gS]
    refine tk 6 (v := ?vk6) rfl ?hyk6 ?_
    case hyk6 => intro w hSw; (try dsimp only at hSw); go_simp; try with_reducible rfl
    try simp only [Act.put, sA, sZ, sS, gA, gZ, gS]
    refine tk 7 (v := ?vk7) rfl ?hyk7 ?_
    case hyk7 => intro w hSw; (try dsimp only at hSw); go_simp; try with_reducible rfl
    try simp only [Act.put, sA, sZ, sS, gA, gZ, gS]
    refine tk 8 (v := ?vk8) rfl ?hyk8 ?_
    case hyk8 => intro w hSw; (try dsimp only at hSw); go_simp; try with_reducible rfl
    try simp only [Act.put, sA, sZ, sS, gA, gZ, gS]
    refine tk 9 (v := ?vk9) rfl ?hyk9 ?_
    case hyk9 => intro w hSw; (try dsimp only at hSw); go_simp; try with_reducible rfl
    try simp only [Act.put, sA, sZ, sS, gA, gZ, gS]
    refine tk 10 (v := ?vk10) rfl ?hyk10 ?_
    case hyk10 => intro w hSw; (try dsimp only at hSw); go_simp; try with_reducible rfl
    try simp only [Act.put, sA, sZ, sS, gA, gZ, gS]
    refine tk 11 (v := ?vk11) rfl ?hyk11 ?_
    case hyk11 => intro w hSw; (try dsimp only at hSw); go_simp; try with_reducible rfl
    try simp only [Act.put, sA, sZ, sS, gA, gZ, gS]
    refine tk 12 (v := ?vk12) rfl ?hyk12 ?_
    case hyk12 => intro w hSw; (try dsimp only at hSw); go_simp; try with_reducible rfl
    try simp only [Act.put, sA, sZ, sS, gA, gZ, gS]
    refine tk 13 (v := ?vk13) rfl ?hyk13 ?_
    case hyk13 => intro w hSw; (try dsimp only at hSw); go_simp; try with_reducible rfl
    try simp only [Act.put, sA, sZ, sS, gA, gZ, gS]
    refine tk 14 (v := ?vk14) rfl ?hyk14 ?_
    case hyk14 => intro w hSw; (try dsimp only at hSw); go_simp; try with_reducible rfl
    try simp only [Act.put, sA, sZ, sS, gA, gZ, gS]
    refine tk 15 (v := ?vk15) rfl ?hyk15 ?_
    case hyk15 => intro w hSw; (try dsimp only at hSw); go_simp; try with_reducible rfl
    try simp only [Act.put, sA, sZ, sS, gA, gZ, gS]
    refine r1 16 rfl (fun K hK => ?_)
    go_simp
    refine (specL04 _ c.ao _ (opOk_right (unhide HF).ao) (hva ▸ (unhide HZ).ha)).mono ?_
    rintro r z2 ⟨rfl, hb⟩
    have HZ2 := hide ((unhide HZ).step hb)
    clear hb
    go_wp2_with fail
    refine hK.out _ _ ?_ (fun _ => ?_)
    · exact ⟨(unhide HZ2).cell (i := 32) rfl, (unhide HZ2).cell (i := 35) rfl, (unhide HZ2).cell (i := 36) (congrArg some hva)⟩
    clear hK K
    try simp only [Act.put, sA, sZ, sS, gA, gZ, gS]
    refine r1 17 rfl (fun K hK => ?_)
    go_simp
    refine (specFirst (txt (Op.bytes c.ao)) _ (by rw [hbz]; omega)).mono ?_
    rintro r z3 ⟨rfl, hws⟩
    replace hws := hws.symm
    subst hws
    go_wp2_with fail
    refine hK.out _ _ ?_ (fun _ => ?_)
    · exact ⟨(unhide HZ2).cell (i := 32) rfl, (unhide HZ2).cell (i := 35) rfl, (unhide HZ2).cell (i := 36) (congrArg some hva)⟩
    clear hK K
    try simp only [Act.put, sA, sZ, sS, gA, gZ, gS]
    refine r1 18 rfl (fun K hK => ?_)
    go_simp
    refine (sPut (unhide HZ2) (Nat.le_trans (unhide HF).sn hn) _ _ _).mono ?_
    rintro r z4 ⟨rfl, vs4, h4⟩
    have HP := hide h4
    clear h4
    go_wp2_with fail
    refine hK.out _ _ ?_ (fun _ => ?_)
    · exact ⟨(unhide HP).cell (i := 32) rfl, (unhide HP).cell (i := 35) rfl, (unhide HP).cell (i := 36) (congrArg some hva)⟩
    clear hK K
    try simp only [Act.put, sA, sZ, sS, gA, gZ, gS]
    refine wpAnyH_done (by kernel_rfl) ?_ _
    go_wp2_with fail
    exact Great.bodyPost_end0 rfl rfl ⟨rfl, _, _, _, _, (by rw [HS, hac]; exact unhide HP)⟩
  · have HS : doScn c s = putS (s) c.ac c.ci (txt (Op.bytes c.ao)) := by unfold doScn putS; rw [if_neg hac]
    have hac2 : (c.ac == 3) = false := beq_eq_false_iff_ne.2 hac
    have HL1 := HL
    go_upto_region 22 with fail
    refine gen_world (fun z => Lay 89 w0 w1 B c (s) v1 v2 vs vt z) ?_ ?_
    · exact unhide HL1
    clear HL1 HL c16 f16 c35
    rintro z hz
    have c32 := hz.cell (i := 32) rfl
    have c35 := hz.cell (i := 35) rfl
    have c36 := hz.cell (i := 36) (congrArg some hva)
    have HZ := hide (hz.step (Below.refl _ _).drew)
    clear hz
    refine wp_region_held_drew (S := fun z => z.cell? ⟨B, 32, none⟩ = some (.int .i64 c.ci) ∧ z.cell? ⟨B, 35, none⟩ = some (.int .i64 c.ac) ∧ z.cell? ⟨B, 36, none⟩ = some (.slice a9 c.ao.length p9)) (by kernel_rfl) ?_ (fun hHeld => ?_)
    · exact ⟨c32, c35, c36⟩
    refine tk 0 (v := ?vl0) rfl ?hyl0 ?_
    case hyl0 => intro w hSw; (try dsimp only at hSw); go_simp; try with_reducible rfl
    try simp only [Act.put, sA, sZ, sS, gA, gZ]
    refine tk 1 (v := ?vl1) rfl ?hyl1 ?_
    case hyl1 => intro w hSw; (try dsimp only at hSw); go_simp; try with_reducible rfl
    try simp only [Act.put, sA, sZ, sS, gA, gZ, gS]
    refine tk 2 (v := ?vl2) rfl ?hyl2 ?_
    case hyl2 => intro w hSw; (try dsimp only at hSw); go_simp; try with_reducible rfl
    try simp only [Act.put, sA, sZ, sS, gA, gZ, gS]
    refine tk 3 (v := ?vl3) rfl ?hyl3 ?_
    case hyl3 => intro w hSw; (try dsimp only at hSw); go_simp; try with_reducible rfl
    try simp only [Act.put, sA, sZ, sS, gA, gZ, gS]
    refine tk 4 (v := ?vl4) rfl ?hyl4 ?_
    case hyl4 => intro w hSw; (try dsimp only at hSw); go_simp; try with_reducible rfl
    try simp only [Act.put, sA, sZ, sS, gA, gZ, gS]
    refine tk 5 (v := ?vl5) rfl ?hyl5 ?_
    case hyl5 => intro w hSw; (try dsimp only at hSw); go_simp; try with_reducible rfl
    try simp only [Act.put, sA, sZ, sS, gA, gZ, gS]
    refine tk 6 (v := ?vl6) rfl ?hyl6 ?_
    case hyl6 => intro w hSw; (try dsimp only at hSw); go_simp; try with_reducible rfl
    try simp only [Act.put, sA, sZ, sS, gA, gZ, gS]
    refine tk 7 (v := ?vl7) rfl ?hyl7 ?_
    case hyl7 => intro w hSw; (try dsimp only at hSw); go_simp; try with_reducible rfl
    try simp only [Act.put, sA, sZ, sS, gA, gZ, gS]
    refine tk 8 (v := ?vl8) rfl ?hyl8 ?_
    case hyl8 => intro w hSw; (try dsimp only at hSw); go_simp; try with_reducible rfl
    try simp only [Act.put, sA, sZ, sS, gA, gZ, gS]
    refine tk 9 (v := ?vl9) rfl ?hyl9 ?_
    case hyl9 => intro w hSw; (try dsimp only at hSw); go_simp; try with_reducible rfl
    try simp only [Act.put, sA, sZ, sS, gA, gZ, gS]
    refine tk 10 (v := ?vl10) rfl ?hyl10 ?_
    case hyl10 => intro w hSw; (try dsimp only at hSw); go_simp; try with_reducible rfl
    try simp only [Act.put, sA, sZ, sS, gA, gZ, gS]
    refine tk 11 (v := ?vl11) rfl ?hyl11 ?_
    case hyl11 => intro w hSw; (try dsimp only at hSw); go_simp; try with_reducible rfl
    try simp only [Act.put, sA, sZ, sS, gA, gZ, gS]
    refine tk 12 (v := ?vl12) rfl ?hyl12 ?_
    case hyl12 => intro w hSw; (try dsimp only at hSw); go_simp; try with_reducible rfl
    try simp only [Act.put, sA, sZ, sS, gA, gZ, gS]
    refine tk 13 (v := ?vl13) rfl ?hyl13 ?_
    case hyl13 => intro w hSw; (try dsimp only at hSw); go_simp; try with_reducible rfl
    try simp only [Act.put, sA, sZ, sS, gA, gZ, gS]
    refine tk 14 (v := ?vl14) rfl ?hyl14 ?_
    case hyl14 => intro w hSw; (try dsimp only at hSw); go_simp; try with_reducible rfl
    try simp only [Act.put, sA, sZ, sS, gA, gZ, gS]
    refine tk 15 (v := ?vl15) rfl ?hyl15 ?_
    case hyl15 => intro w hSw; (try dsimp only at hSw); go_simp; try with_reducible rfl
    try simp only [Act.put, sA, sZ, sS, gA, gZ, gS]
    refine r1 16 rfl (fun K hK => ?_)
    go_simp
    refine (specL04 _ c.ao _ (opOk_right (unhide HF).ao) (hva ▸ (unhide HZ).ha)).mono ?_
    rintro r z2 ⟨rfl, hb⟩
    have HZ2 := hide ((unhide HZ).step hb)
    clear hb
    go_wp2_with fail
    refine hK.out _ _ ?_ (fun _ => ?_)
    · exact ⟨(unhide HZ2).cell (i := 32) rfl, (unhide HZ2).cell (i := 35) rfl, (unhide HZ2).cell (i := 36) (congrArg some hva)⟩
    clear hK K
    try simp only [Act.put, sA, sZ, sS, gA, gZ, gS]
    refine r1 17 rfl (fun K hK => ?_)
    go_simp
    refine (specFirst (txt (Op.bytes c.ao)) _ (by rw [hbz]; omega)).mono ?_
    rintro r z3 ⟨rfl, hws⟩
    replace hws := hws.symm
    subst hws
    go_wp2_with fail
    refine hK.out _ _ ?_ (fun _ => ?_)
    · exact ⟨(unhide HZ2).cell (i := 32) rfl, (unhide HZ2).cell (i := 35) rfl, (unhide HZ2).cell (i := 36) (congrArg some hva)⟩
    clear hK K
    try simp only [Act.put, sA, sZ, sS, gA, gZ, gS]
    refine r1 18 rfl (fun K hK => ?_)
    go_simp
    refine (sPut (unhide HZ2) (Nat.le_trans (unhide HF).sn hn) _ _ _).mono ?_
    rintro r z4 ⟨rfl, vs4, h4⟩
    have HP := hide h4
    clear h4
    go_wp2_with fail
    refine hK.out _ _ ?_ (fun _ => ?_)
    · exact ⟨(unhide HP).cell (i := 32) rfl, (unhide HP).cell (i := 35) rfl, (unhide HP).cell (i := 36) (congrArg some hva)⟩
    clear hK K
    try simp only [Act.put, sA, sZ, sS, gA, gZ, gS]
    refine wpAnyH_done (by kernel_rfl) ?_ _
    go_wp2_with fail
    exact Great.bodyPost_end0 rfl rfl ⟨rfl, _, _, _, _, (by rw [HS]; exact unhide HP)⟩
set_option maxHeartbeats 4000000 in
set_option maxRecDepth 100000 in
theorem sSca (h : Lay 89 w0 w1 B c s v1 v2 vs vt q) {n : Nat} (hf : Fit n c s) (hn : n ≤ 1000) :
    Calls Tryz.prog 90 #[.pointer (some ⟨B, 0, none⟩), .string nSca] q fun r q' => r = .returned (.tuple #[]) ∧ ∃ v1 v2 vs vt, Lay 89 w0 w1 B c (doSca c s) v1 v2 vs vt q' := by
  have HF := hide hf
  obtain ⟨a9, p9, hva⟩ := h.ha.form
  obtain ⟨a8, p8, hvh⟩ := h.hh.form
  have hb0 : Below q.heap.size q (q.alloc (.cells #[] 116)) := (Below.refl _ _).alloc (Nat.le_refl _) _
  have h0 := h.step hb0
  have c34 : (q.alloc (.cells #[] 116)).cell? ⟨B, 34, none⟩ = some (.slice a8 c.hd.length p8) := h0.cell (i := 34) (congrArg some hvh)
  have hh0 : HoldsO (q.alloc (.cells #[] 116)) (.slice a8 c.hd.length p8) c.hd := hvh ▸ h0.hh
  have hlen : c.hd.length ≤ 20 := by have := opOk_right hf.hd; unfold Op.right at this; rw [Bool.and_eq_true] at this; exact of_decide_eq_true this.1
  have HO := hide (madeO q)
  have HM := hide hh0
  have HL := hide h
  have hBl := h.lt
  clear h hf h0 hb0 hh0
  go_enter Tryz.func90, Tryz.ntmps90
  go_upto_region 18 with (first
    | (at_builtin; refine append_od rfl _ _ rfl q.heap.size (.slice (some ⟨q.heap.size, 0, none⟩) 0 0) (.slice a8 c.hd.length p8) [] c.hd rfl rfl (unhide HO) (unhide HM) (Nat.zero_le _) (by omega) (by simp) ?_; rintro v6 w6 ho6 hg6
       obtain ⟨a6, c6, hv6⟩ := own_form ho6
       rw [List.nil_append] at hv6 ho6
       subst hv6
       have hb6 : Below q.heap.size q w6 := ⟨hg6.os, hg6.tape, hg6.output, Nat.le_trans (by simp) hg6.size, fun b hb => (hg6.block b (by simp; omega) (fun e => by have e' : b = q.heap.size := Option.some.inj e; omega)).trans (Below.heap_alloc _ _ _ hb)⟩
       have h6 := (unhide HL).step hb6
       have k18 := h6.cell (i := 18) rfl
       have f18 := h6.frz 18
       have h7 := (unhide HL).new2 hb6 _ c.hd ho6
       have k16 := h7.cell (i := 16) rfl
       have f16 := h7.frz 16
       have HL1 := hide (h7.setRaw 16 (.int .i64 0) { s.e with fl := 0 } rfl)
       clear h6 h7 hb6 ho6 hg6))
  refine gen_world (fun z => Lay 89 w0 w1 B c { s with e := { s.e with fl := 0 }, F2 := c.hd } v1 (.slice a6 c.hd.length c6) vs vt z) ?_ ?_
  · exact unhide HL1
  clear HL1 c34 k18 f18 k16 f16
  rintro z hz
  have c32 := hz.cell (i := 32) rfl
  have c36 := hz.cell (i := 36) (congrArg some hva)
  have HZ := hide (hz.step (Below.refl _ _).drew)
  clear hz
  refine wp_region_held_drew (S := fun z => z.cell? ⟨B, 32, none⟩ = some (.int .i64 c.ci) ∧ z.cell? ⟨B, 36, none⟩ = some (.slice a9 c.ao.length p9)) (by kernel_rfl) ?_ (fun hHeld => ?_)
  · exact ⟨c32, c36⟩
  refine tk 0 (v := ?vs0) rfl ?hys0 ?_
  case hys0 => intro w hSw; (try dsimp only at hSw); go_simp; try with_reducible rfl
  try simp only [Act.put, sA, sZ, sS, gA, gZ]
  refine tk 1 (v := ?vs1) rfl ?hys1 ?_
  case hys1 => intro w hSw; (try dsimp only at hSw); go_simp; try with_reducible rfl
  try simp only [Act.put, sA, sZ, sS, gA, gZ, gS]
  refine tk 2 (v := ?vs2) rfl ?hys2 ?_
  case hys2 => intro w hSw; (try dsimp only at hSw); go_simp; try with_reducible rfl
  try simp only [Act.put, sA, sZ, sS, gA, gZ, gS]
  refine tk 3 (v := ?vs3) rfl ?hys3 ?_
  case hys3 => intro w hSw; (try dsimp only at hSw); go_simp; try with_reducible rfl
  try simp only [Act.put, sA, sZ, sS, gA, gZ, gS]
  refine tk 4 (v := ?vs4) rfl ?hys4 ?_
  case hys4 => intro w hSw; (try dsimp only at hSw); go_simp; try with_reducible rfl
  try simp only [Act.put, sA, sZ, sS, gA, gZ, gS]
  refine tk 5 (v := ?vs5) rfl ?hys5 ?_
  case hys5 => intro w hSw; (try dsimp only at hSw); go_simp; try with_reducible rfl
  try simp only [Act.put, sA, sZ, sS, gA, gZ, gS]
  refine tk 6 (v := ?vs6) rfl ?hys6 ?_
  case hys6 => intro w hSw; (try dsimp only at hSw); go_simp; try with_reducible rfl
  try simp only [Act.put, sA, sZ, sS, gA, gZ, gS]
  refine tk 7 (v := ?vs7) rfl ?hys7 ?_
  case hys7 => intro w hSw; (try dsimp only at hSw); go_simp; try with_reducible rfl
  try simp only [Act.put, sA, sZ, sS, gA, gZ, gS]
  refine tk 8 (v := ?vs8) rfl ?hys8 ?_
  case hys8 => intro w hSw; (try dsimp only at hSw); go_simp; try with_reducible rfl
  try simp only [Act.put, sA, sZ, sS, gA, gZ, gS]
  refine tk 9 (v := ?vs9) rfl ?hys9 ?_
  case hys9 => intro w hSw; (try dsimp only at hSw); go_simp; try with_reducible rfl
  try simp only [Act.put, sA, sZ, sS, gA, gZ, gS]
  refine tk 10 (v := ?vs10) rfl ?hys10 ?_
  case hys10 => intro w hSw; (try dsimp only at hSw); go_simp; try with_reducible rfl
  try simp only [Act.put, sA, sZ, sS, gA, gZ, gS]
  refine r1 11 rfl (fun K hK => ?_)
  go_simp
  refine (specL04 _ c.ao _ (opOk_right (unhide HF).ao) (hva ▸ (unhide HZ).ha)).mono ?_
  rintro r z2 ⟨rfl, hb⟩
  have HZ2 := hide ((unhide HZ).step hb)
  clear hb
  go_wp2_with fail
  refine hK.out _ _ ?_ (fun _ => ?_)
  · exact ⟨(unhide HZ2).cell (i := 32) rfl, (unhide HZ2).cell (i := 36) (congrArg some hva)⟩
  clear hK K
  try simp only [Act.put, sA, sZ, sS, gA, gZ, gS]
  refine r1 12 rfl (fun K hK => ?_)
  go_simp
  refine (sPut (unhide HZ2) (Nat.le_trans (unhide HF).sn hn) 2 _ _).mono ?_
  rintro r z4 ⟨rfl, vs4, h4⟩
  have HP := hide h4
  clear h4
  go_wp2_with fail
  refine hK.out _ _ ?_ (fun _ => ?_)
  · exact ⟨(unhide HP).cell (i := 32) rfl, (unhide HP).cell (i := 36) (congrArg some hva)⟩
  clear hK K
  try simp only [Act.put, sA, sZ, sS, gA, gZ, gS]
  refine wpAnyH_done (by kernel_rfl) ?_ _
  go_wp2_with fail
  exact Great.bodyPost_end0 rfl rfl ⟨rfl, _, _, _, _, unhide HP⟩
set_option maxHeartbeats 4000000 in
set_option maxRecDepth 100000 in
theorem sSer (h : Lay 89 w0 w1 B c s v1 v2 vs vt q) {n : Nat} (hf : Fit n c s) (hn : n ≤ 1000) :
    Calls Tryz.prog 90 #[.pointer (some ⟨B, 0, none⟩), .string nSer] q fun r q' => r = .returned (.tuple #[]) ∧ ∃ v1 v2 vs vt, Lay 89 w0 w1 B c (doSer c s) v1 v2 vs vt q' := by
  have HF := hide hf
  have b31 := h.cell (i := 31) rfl
  have b33 := h.cell (i := 33) rfl
  obtain ⟨_, _, e3⟩ := cfgNat hf.ask
  have CP := hide fun W => sput4 s.e.g2.toNat W
  rw [e3] at CP
  have hcd := hf.cd
  have HL1 := hide h
  clear h hf
  go_enter Tryz.func90, Tryz.ntmps90
  by_cases hk : c.cc = 9 ∧ 4 ≤ c.cd.size
  · obtain ⟨k1, k2⟩ := hk
    have HS : doSer c s = putS s 10 c.ci (put4 s.e.g2.toNat ++ c.cd.extract 4 c.cd.size) := by unfold doSer putS; rw [if_pos ⟨k1, k2⟩]
    have d2 : (4 : Int) ≤ (c.cd.size : Int) := by omega
    go_upto_region 29 with fail
    refine gen_world (fun z => Lay 89 w0 w1 B c s v1 v2 vs vt z) ?_ ?_
    · exact unhide HL1
    clear HL1 b31 b33
    rintro z hz
    have c8 := hz.cell (i := 8) rfl
    have c32 := hz.cell (i := 32) rfl
    have c33 := hz.cell (i := 33) rfl
    have HZ := hide (hz.step (Below.refl _ _).drew)
    clear hz
    refine wp_region_held_drew (S := fun z => z.cell? ⟨B, 8, none⟩ = some (.int .i64 s.e.g2) ∧ z.cell? ⟨B, 32, none⟩ = some (.int .i64 c.ci) ∧ z.cell? ⟨B, 33, none⟩ = some (.string c.cd)) (by kernel_rfl) ?_ (fun hHeld => ?_)
    · exact ⟨c8, c32, c33⟩

    refine tk 0 (v := ?vr0) rfl ?hyr0 ?_
    case hyr0 => intro w hSw; (try dsimp only at hSw); go_simp; try with_reducible rfl
    try simp only [Act.put, sA, sZ, sS, gA, gZ]
    refine tk 1 (v := ?vr1) rfl ?hyr1 ?_
    case hyr1 => intro w hSw; (try dsimp only at hSw); go_simp; try with_reducible rfl
    try simp only [Act.put, sA, sZ, sS, gA, gZ, gS]
    refine tk 2 (v := ?vr2) rfl ?hyr2 ?_
    case hyr2 => intro w hSw; (try dsimp only at hSw); go_simp; try with_reducible rfl
    try simp only [Act.put, sA, sZ, sS, gA, gZ, gS]
    refine tk 3 (v := ?vr3) rfl ?hyr3 ?_
    case hyr3 => intro w hSw; (try dsimp only at hSw); go_simp; try with_reducible rfl
    try simp only [Act.put, sA, sZ, sS, gA, gZ, gS]
    refine tk 4 (v := ?vr4) rfl ?hyr4 ?_
    case hyr4 => intro w hSw; (try dsimp only at hSw); go_simp; try with_reducible rfl
    try simp only [Act.put, sA, sZ, sS, gA, gZ, gS]
    refine tk 5 (v := ?vr5) rfl ?hyr5 ?_
    case hyr5 => intro w hSw; (try dsimp only at hSw); go_simp; try with_reducible rfl
    try simp only [Act.put, sA, sZ, sS, gA, gZ, gS]
    refine tk 6 (v := ?vr6) rfl ?hyr6 ?_
    case hyr6 => intro w hSw; (try dsimp only at hSw); go_simp; try with_reducible rfl
    try simp only [Act.put, sA, sZ, sS, gA, gZ, gS]
    refine tk 7 (v := ?vr7) rfl ?hyr7 ?_
    case hyr7 => intro w hSw; (try dsimp only at hSw); go_simp; try with_reducible rfl
    try simp only [Act.put, sA, sZ, sS, gA, gZ, gS]
    refine tk 8 (v := ?vr8) rfl ?hyr8 ?_
    case hyr8 => intro w hSw; (try dsimp only at hSw); go_simp; try with_reducible rfl
    try simp only [Act.put, sA, sZ, sS, gA, gZ, gS]
    refine tk 9 (v := ?vr9) rfl ?hyr9 ?_
    case hyr9 => intro w hSw; (try dsimp only at hSw); go_simp; try with_reducible rfl
    try simp only [Act.put, sA, sZ, sS, gA, gZ, gS]
    refine tk 10 (v := ?vr10) rfl ?hyr10 ?_
    case hyr10 => intro w hSw; (try dsimp only at hSw); go_simp; try with_reducible rfl
    try simp only [Act.put, sA, sZ, sS, gA, gZ, gS]
    refine tk 11 (v := ?vr11) rfl ?hyr11 ?_
    case hyr11 => intro w hSw; (try dsimp only at hSw); go_simp; try with_reducible rfl
    try simp only [Act.put, sA, sZ, sS, gA, gZ, gS]
    refine tk 13 (v := ?vr13) rfl ?hyr13 ?_
    case hyr13 => intro w hSw; (try dsimp only at hSw); go_simp; try with_reducible rfl
    try simp only [Act.put, sA, sZ, sS, gA, gZ, gS]
    refine tk 14 (v := ?vr14) rfl ?hyr14 ?_
    case hyr14 => intro w hSw; (try dsimp only at hSw); go_simp; try with_reducible rfl
    try simp only [Act.put, sA, sZ, sS, gA, gZ, gS]
    refine tk 15 (v := ?vr15) rfl ?hyr15 ?_
    case hyr15 => intro w hSw; (try dsimp only at hSw); go_simp; try with_reducible rfl
    try simp only [Act.put, sA, sZ, sS, gA, gZ, gS]
    refine tk 16 (v := ?vr16) rfl ?hyr16 ?_
    case hyr16 => intro w hSw; (try dsimp only at hSw); go_simp; try with_reducible rfl
    try simp only [Act.put, sA, sZ, sS, gA, gZ, gS]
    refine tk 17 (v := ?vr17) rfl ?hyr17 ?_
    case hyr17 => intro w hSw; (try dsimp only at hSw); go_simp; try with_reducible rfl
    try simp only [Act.put, sA, sZ, sS, gA, gZ, gS]
    refine tk 18 (v := ?vr18) rfl ?hyr18 ?_
    case hyr18 => intro w hSw; (try dsimp only at hSw); go_simp; try with_reducible rfl
    try simp only [Act.put, sA, sZ, sS, gA, gZ, gS]
    refine r1 12 rfl (fun K hK => ?_)
    go_simp
    refine (unhide CP _).mono ?_
    rintro r z2 ⟨rfl, hb⟩
    have HZ2 := hide ((unhide HZ).step hb)
    clear hb
    go_wp2_with fail
    refine hK.out _ _ ?_ (fun _ => ?_)
    · exact ⟨(unhide HZ2).cell (i := 8) rfl, (unhide HZ2).cell (i := 32) rfl, (unhide HZ2).cell (i := 33) rfl⟩
    clear hK K
    try simp only [Act.put, sA, sZ, sS, gA, gZ, gS]
    refine wpAnyH_take (i := 19) (v := .string (put4 s.e.g2.toNat ++ c.cd.extract 4 c.cd.size)) rfl (by kernel_rfl) (by kernel_rfl) (by kernel_rfl) (fun _ _ _ h => h) (Or.inl ⟨by rfl, ?hyr19⟩) (by assumption) ?_
    case hyr19 =>
      intro w hSw
      go_simp
      have hz4 : (put4 s.e.g2.toNat).size = 4 := rfl
      rw [hz4]
      omega
    try simp only [Act.put, sA, sZ, sS, gA, gZ, gS]
    refine r1 20 rfl (fun K hK => ?_)
    go_simp
    refine (sPut (unhide HZ2) (Nat.le_trans (unhide HF).sn hn) 10 _ _).mono ?_
    rintro r z4 ⟨rfl, vs4, h4⟩
    have HP := hide h4
    clear h4
    go_wp2_with fail
    refine hK.out _ _ ?_ (fun _ => ?_)
    · exact ⟨(unhide HP).cell (i := 8) rfl, (unhide HP).cell (i := 32) rfl, (unhide HP).cell (i := 33) rfl⟩
    clear hK K
    try simp only [Act.put, sA, sZ, sS, gA, gZ, gS]
    refine wpAnyH_done (by kernel_rfl) ?_ _
    go_wp2_with fail
    exact Great.bodyPost_end0 rfl rfl ⟨rfl, _, _, _, _, (by rw [HS]; exact unhide HP)⟩
  · have HS : doSer c s = s := by unfold doSer; rw [if_neg hk]
    by_cases k1 : c.cc = 9
    · have d2 : ¬ ((4 : Int) ≤ (c.cd.size : Int)) := fun h => hk ⟨k1, by omega⟩
      go_wp2
      exact Great.bodyPost_end0 rfl rfl ⟨rfl, _, _, _, _, by first | (rw [HS]; exact unhide HL1) | exact unhide HL1⟩
    · have k2 : (c.cc == 9) = false := beq_eq_false_iff_ne.2 k1
      go_wp2
      exact Great.bodyPost_end0 rfl rfl ⟨rfl, _, _, _, _, by first | (rw [HS]; exact unhide HL1) | exact unhide HL1⟩
end
end Go.Proofs.YtahpjlbaagkdoaaGreatDoor
