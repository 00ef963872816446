/- The program's end at work: an id more, a try less, a packet sent, and down; what lay in memory stands. -/
import Derived.Test.YtahpjlbaagkdoaaGreatDoorS16
import Derived.Test.YtahpjlbaagkdoaaGreatDoorS13
import Derived.Test.YtahpjlbaagkdoaaGreatDoorS10
import Derived.Great.Walk
import Derived.Deep.RegionHeld
import Derived.Test.YtahpjlbaagkdoaaGreatDoorShW
namespace Go.Proofs.YtahpjlbaagkdoaaGreatDoor
open Go.RowKit
theorem ttI : Tt 83 := ⟨by decide, by decide, by decide⟩
section
variable {w0 w1 : World} {B : Nat} {c : Cx} {s : St} {v1 v2 vs vt : Value} {q : World}
set_option maxHeartbeats 1000000 in
set_option maxRecDepth 100000 in
theorem iNext (h : Lay 83 w0 w1 B c s v1 v2 vs vt q) (hid : 0 ≤ s.e.id ∧ s.e.id ≤ 255) :
    Calls Tryz.prog 239 #[.pointer (some ⟨B, 0, none⟩)] q fun r q' => r = .returned (.int .i64 ((s.e.id + 1) % 256)) ∧ Lay 83 w0 w1 B c { s with e := nextE s.e } v1 v2 vs vt q' := by
  have c15 := h.cell (i := 15) rfl
  have f15 := h.frz 15
  obtain ⟨h1, h2⟩ := hid
  have h' := h.setRaw 15 (.int .i64 ((s.e.id + 1) % 256)) (nextE s.e) rfl
  have d15 := h'.cell (i := 15) rfl
  dsimp only [nextE] at d15
  have hm : (s.e.id + 1).tmod 256 = (s.e.id + 1) % 256 := Int.tmod_eq_emod_of_nonneg (by omega)
  have HL := hide h'
  clear h h'
  go_enter Tryz.func239, Tryz.ntmps239
  go_wp2
  go_ret
  exact ⟨rfl, unhide HL⟩
set_option maxHeartbeats 1000000 in
set_option maxRecDepth 100000 in
theorem iTry (h : Lay 83 w0 w1 B c s v1 v2 vs vt q) (htr : 0 ≤ s.e.tr ∧ s.e.tr ≤ 5) (hn : 0 ≤ c.now ∧ c.now ≤ 1000000000) :
    Calls Tryz.prog 240 #[.pointer (some ⟨B, 0, none⟩)] q fun r q' => r = .returned (.tuple #[]) ∧ Lay 83 w0 w1 B c { s with e := tryE c.now s.e } v1 v2 vs vt q' := by
  have c13 := h.cell (i := 13) rfl
  have f13 := h.frz 13
  obtain ⟨h1, h2⟩ := htr
  obtain ⟨h3, h4⟩ := hn
  have h' := h.setRaw 13 (.int .i64 (max 0 (s.e.tr - 1))) { s.e with tr := max 0 (s.e.tr - 1) } rfl
  have c14 := h'.cell (i := 14) rfl
  have f14 := h'.frz 14
  have c30 := h'.cell (i := 30) rfl
  have h'' := h'.setRaw 14 (.int .i64 (c.now + 3)) (tryE c.now s.e) rfl
  have HL := hide h''
  clear h h' h''
  dsimp only at c14 c30
  go_enter Tryz.func240, Tryz.ntmps240
  go_wp2
  exact Great.bodyPost_end0 rfl rfl ⟨rfl, unhide HL⟩
set_option maxHeartbeats 1000000 in
set_option maxRecDepth 100000 in
theorem iSend (h : Lay 83 w0 w1 B c s v1 v2 vs vt q) (hS : s.sn.length ≤ 1000) (cd id : Int) (dt : ByteArray) :
    Calls Tryz.prog 238 #[.pointer (some ⟨B, 0, none⟩), .int .i64 cd, .int .i64 id, .string dt] q fun r q' => r = .returned (.tuple #[]) ∧ ∃ vs', Lay 83 w0 w1 B c (putS s cd id dt) v1 v2 vs' vt q' := by
  have c0 := h.cell (i := 37) rfl
  obtain ⟨ad, cp, rfl⟩ := own_form h.os
  obtain ⟨n, hn⟩ : ∃ n, s.sn.length = n := ⟨_, rfl⟩
  have ho := h.os
  rw [hn] at c0 ho hS h
  have HO := hide ho
  have HL := hide h
  clear h ho
  go_enter Tryz.func238, Tryz.ntmps238
  go_wp2_with (first
    | (at_builtin; refine append_pk rfl _ _ rfl w1.heap.size (.slice ad n cp) s.sn n hn rfl (unhide HO) cd id dt rfl hS (unhide HL).nr.size ?_; rintro v6 w6 ho6 hg6; obtain ⟨a6, c6, rfl⟩ := own_form ho6
       have e6 := (hg6.block B (Nat.lt_of_lt_of_le (unhide HL).lt (by simp)) (fun e => (own_ty (unhide HL).os (unhide HL).row (unhide HL).tt.2.1) e.symm)).trans ((Below.heap_alloc _ _ _ (unhide HL).lt).trans (unhide HL).row)
       have k6 : w6.cell? ⟨B, 37, none⟩ = some (.slice ad n cp) := by rw [cell_of_row _ _ _ _ _ _ e6]; rfl
       have f6 : w6.frozen? ⟨B, 37, none⟩ = false := frz e6 37
       clear e6))
  refine Great.bodyPost_end0 rfl rfl ⟨rfl, _, (unhide HL).put _ hg6 _ _ ?_⟩
  rw [List.length_append, hn]
  exact ho6
set_option maxHeartbeats 4000000 in
set_option maxRecDepth 100000 in
theorem iFall (h : Lay 83 w0 w1 B c s v1 v2 vs vt q) :
    Calls Tryz.prog 232 #[.pointer (some ⟨B, 0, none⟩)] q fun r q' => r = .returned (.tuple #[]) ∧ Lay 83 w0 w1 B c { s with e := downE s.e } v1 v2 vs vt q' := by
  have c19 := h.cell (i := 19) rfl
  have f19 := h.frz 19
  have h19 := h.setRaw 19 (.bool false) { s.e with up := false } rfl
  have c20 := h19.cell (i := 20) rfl
  have f20 := h19.frz 20
  have h20 := h19.setRaw 20 (.int .i64 0) { s.e with up := false, i1 := 0 } rfl
  have c21 := h20.cell (i := 21) rfl
  have f21 := h20.frz 21
  have h21 := h20.setRaw 21 (.int .i64 0) { s.e with up := false, i1 := 0, i2 := 0 } rfl
  have c22 := h21.cell (i := 22) rfl
  have f22 := h21.frz 22
  have h22 := h21.setRaw 22 (.bool false) { s.e with up := false, i1 := 0, i2 := 0, i3 := false } rfl
  have c23 := h22.cell (i := 23) rfl
  have f23 := h22.frz 23
  have h23 := h22.setRaw 23 (.bool false) { s.e with up := false, i1 := 0, i2 := 0, i3 := false, i4 := false } rfl
  have c24 := h23.cell (i := 24) rfl
  have f24 := h23.frz 24
  have h24 := h23.setRaw 24 (.bool false) { s.e with up := false, i1 := 0, i2 := 0, i3 := false, i4 := false, i5 := false } rfl
  have c25 := h24.cell (i := 25) rfl
  have f25 := h24.frz 25
  have h25 := h24.setRaw 25 (.int .i64 0) { s.e with up := false, i1 := 0, i2 := 0, i3 := false, i4 := false, i5 := false, o1 := 0 } rfl
  have c26 := h25.cell (i := 26) rfl
  have f26 := h25.frz 26
  have h26 := h25.setRaw 26 (.int .i64 0) { s.e with up := false, i1 := 0, i2 := 0, i3 := false, i4 := false, i5 := false, o1 := 0, o2 := 0 } rfl
  have c27 := h26.cell (i := 27) rfl
  have f27 := h26.frz 27
  have h27 := h26.setRaw 27 (.bool false) { s.e with up := false, i1 := 0, i2 := 0, i3 := false, i4 := false, i5 := false, o1 := 0, o2 := 0, o3 := false } rfl
  have c28 := h27.cell (i := 28) rfl
  have f28 := h27.frz 28
  have h28 := h27.setRaw 28 (.bool false) { s.e with up := false, i1 := 0, i2 := 0, i3 := false, i4 := false, i5 := false, o1 := 0, o2 := 0, o3 := false, o4 := false } rfl
  have c29 := h28.cell (i := 29) rfl
  have f29 := h28.frz 29
  have h29 := h28.setRaw 29 (.bool false) (downE s.e) rfl
  have HL := hide h29
  clear h h19 h20 h21 h22 h23 h24 h25 h26 h27 h28 h29
  dsimp only at c20 c21 c22 c23 c24 c25 c26 c27 c28 c29
  go_enter Tryz.func232, Tryz.ntmps232
  go_wp2
  exact Great.bodyPost_end0 rfl rfl ⟨rfl, unhide HL⟩
set_option maxHeartbeats 1000000 in
set_option maxRecDepth 100000 in
theorem iSet (h : Lay 83 w0 w1 B c s v1 v2 vs vt q) (n : Int) :
    Calls Tryz.prog 233 #[.agg #[.int .i64 n], .pointer (some ⟨B, 0, none⟩)] q fun r q' => r = .returned (.tuple #[]) ∧ Lay 83 w0 w1 B c { s with e := { s.e with tr := n } } v1 v2 vs vt q' := by
  have hb : Below q.heap.size q (q.alloc (.cells #[.int .i64 n] 133)) := (Below.refl _ _).alloc (Nat.le_refl _) _
  have h0 := h.step hb
  have c13 := h0.cell (i := 13) rfl
  have f13 := h0.frz 13
  have HL := hide (h0.setRaw 13 (.int .i64 n) { s.e with tr := n } rfl)
  clear h h0 hb
  go_enter Tryz.func233, Tryz.ntmps233
  go_wp2
  exact Great.bodyPost_end0 rfl rfl ⟨rfl, unhide HL⟩
set_option maxHeartbeats 2000000 in
set_option maxRecDepth 100000 in
theorem iEnd {n : Nat} (h : Lay 83 w0 w1 B c s v1 v2 vs vt q) (hf : Fit n c s) (hn : n ≤ 1000) :
    Calls Tryz.prog 241 #[.agg #[], .pointer (some ⟨B, 0, none⟩)] q fun r q' => r = .returned (.tuple #[]) ∧ ∃ vs', Lay 83 w0 w1 B c (doStr c s) v1 v2 vs' vt q' := by
  have hb : Below q.heap.size q (q.alloc (.cells #[] 159)) := (Below.refl _ _).alloc (Nat.le_refl _) _
  have HL := hide (h.step hb)
  have HF := hide hf
  clear h hb hf
  go_enter Tryz.func241, Tryz.ntmps241
  go_wp2_with fail
  refine (iNext (unhide HL) (unhide HF).id).mono ?_
  rintro r q1 ⟨rfl, h1⟩
  have HL1 := hide h1
  clear h1
  go_wp2_with fail
  refine (iSend (unhide HL1) (Nat.le_trans (unhide HF).sn hn) 5 _ _).mono ?_
  rintro r q2 ⟨rfl, vs2, h2⟩
  have HL2 := hide h2
  clear h2
  go_wp2_with fail
  refine (iTry (unhide HL2) (unhide HF).tr (unhide HF).now).mono ?_
  rintro r q3 ⟨rfl, h3⟩
  go_wp2
  exact Great.bodyPost_end0 rfl rfl ⟨rfl, _, h3⟩
set_option maxHeartbeats 4000000 in
set_option maxRecDepth 100000 in
theorem iReq {n : Nat} (h : Lay 83 w0 w1 B c s v1 v2 vs vt q) (hf : Fit n c s) (hn : n ≤ 1000) :
    Calls Tryz.prog 236 #[.agg #[], .pointer (some ⟨B, 0, none⟩)] q fun r q' => r = .returned (.tuple #[]) ∧ ∃ v1' vs', Lay 83 w0 w1 B c (doScr c s) v1' v2 vs' vt q' := by
  have HF := hide hf
  obtain ⟨e1, e2, e3⟩ := cfgNat hf.ask
  have CA := hide fun W => implAskYes s.e.m2.toNat s.e.a2.toNat s.e.g2.toNat s.e.p2 s.e.c2 s.e.d2 W (by rw [e1, e2, e3]; exact hf.ask)
  rw [e1, e2, e3] at CA
  clear e1 e2 e3
  have hb : Below q.heap.size q (q.alloc (.cells #[] 158)) := (Below.refl _ _).alloc (Nat.le_refl _) _
  have h0 := h.step hb
  have c6 := h0.cell (i := 6) rfl
  have c7 := h0.cell (i := 7) rfl
  have c8 := h0.cell (i := 8) rfl
  have c9 := h0.cell (i := 9) rfl
  have c10 := h0.cell (i := 10) rfl
  have c11 := h0.cell (i := 11) rfl
  have HL := hide h0
  clear h h0 hb hf
  go_enter Tryz.func236, Tryz.ntmps236
  go_wp2_with fail
  refine (unhide CA _).mono ?_
  rintro r q1 ⟨ad, cp, rfl, ho, hb⟩
  have h1 := (unhide HL).step hb
  have c17 := h1.cell (i := 17) rfl
  have f17 := h1.frz 17
  have HL1 := hide ((unhide HL).new1 hb _ (askOf s.e) ho)
  clear h1 ho hb HL CA c6 c7 c8 c9 c10 c11
  go_upto_region 2 with fail
  refine gen_world (fun z => Lay 83 w0 w1 B c { s with F1 := askOf s.e } (.slice ad (askOf s.e).length cp) v2 vs vt z) ?_ ?_
  · exact unhide HL1
  clear HL1 c17 f17
  rintro z hz
  have c17 := hz.cell (i := 17) rfl
  have HZ := hide (hz.step (Below.refl _ _).drew)
  clear hz
  refine wp_region_held_drew (S := fun z => z.cell? ⟨B, 17, none⟩ = some (.slice ad (askOf s.e).length cp)) (by kernel_rfl) ?_ (fun hHeld => ?_)
  · exact c17
  refine tk 0 (v := ?va0) rfl ?hya0 ?_
  case hya0 => intro w hSw; (try dsimp only at hSw); go_simp; try with_reducible rfl
  try simp only [Act.put, sA, sZ, sS, gA, gZ]
  refine tk 1 (v := ?va1) rfl ?hya1 ?_
  case hya1 => intro w hSw; (try dsimp only at hSw); go_simp; try with_reducible rfl
  try simp only [Act.put, sA, sZ, sS, gA, gZ, gS]
  refine tk 2 (v := ?va2) rfl ?hya2 ?_
  case hya2 => intro w hSw; (try dsimp only at hSw); go_simp; try with_reducible rfl
  try simp only [Act.put, sA, sZ, sS, gA, gZ, gS]
  refine tk 3 (v := ?va3) rfl ?hya3 ?_
  case hya3 => intro w hSw; (try dsimp only at hSw); go_simp; try with_reducible rfl
  try simp only [Act.put, sA, sZ, sS, gA, gZ, gS]
  refine tk 5 (v := ?va5) rfl ?hya5 ?_
  case hya5 => intro w hSw; (try dsimp only at hSw); go_simp; try with_reducible rfl
  try simp only [Act.put, sA, sZ, sS, gA, gZ, gS]
  refine tk 6 (v := ?va6) rfl ?hya6 ?_
  case hya6 => intro w hSw; (try dsimp only at hSw); go_simp; try with_reducible rfl
  try simp only [Act.put, sA, sZ, sS, gA, gZ, gS]
  refine tk 7 (v := ?va7) rfl ?hya7 ?_
  case hya7 => intro w hSw; (try dsimp only at hSw); go_simp; try with_reducible rfl
  try simp only [Act.put, sA, sZ, sS, gA, gZ, gS]
  refine tk 8 (v := ?va8) rfl ?hya8 ?_
  case hya8 => intro w hSw; (try dsimp only at hSw); go_simp; try with_reducible rfl
  try simp only [Act.put, sA, sZ, sS, gA, gZ, gS]
  refine tk 9 (v := ?va9) rfl ?hya9 ?_
  case hya9 => intro w hSw; (try dsimp only at hSw); go_simp; try with_reducible rfl
  try simp only [Act.put, sA, sZ, sS, gA, gZ, gS]
  refine r1 4 rfl (fun K hK => ?_)
  go_simp
  refine (iNext (unhide HZ) (unhide HF).id).mono ?_
  rintro r z1 ⟨rfl, h1⟩
  have HZ1 := hide h1
  clear h1
  go_wp2_with fail
  refine hK.out _ _ ?_ (fun _ => ?_)
  · exact (unhide HZ1).cell (i := 17) rfl
  clear hK K
  try simp only [Act.put, sA, sZ, sS, gA, gZ, gS]
  refine r1 10 rfl (fun K hK => ?_)
  go_simp
  refine (implBytesAll _ (askOf s.e) _ (by have := askOf_len s.e; unfold maxLen; omega) (HoldsO.own (unhide HZ1).o1)).mono ?_
  rintro r z2 ⟨rfl, hb2⟩
  have HZ2 := hide ((unhide HZ1).step hb2)
  clear hb2
  go_wp2_with fail
  refine hK.out _ _ ?_ (fun _ => ?_)
  · exact (unhide HZ2).cell (i := 17) rfl
  clear hK K
  try simp only [Act.put, sA, sZ, sS, gA, gZ, gS]
  refine r1 11 rfl (fun K hK => ?_)
  go_simp
  refine (iSend (unhide HZ2) (Nat.le_trans (unhide HF).sn hn) 1 _ _).mono ?_
  rintro r z3 ⟨rfl, vs3, h3⟩
  have HP := hide h3
  clear h3
  go_wp2_with fail
  refine hK.out _ _ ?_ (fun _ => ?_)
  · exact (unhide HP).cell (i := 17) rfl
  clear hK K
  try simp only [Act.put, sA, sZ, sS, gA, gZ, gS]
  refine wpAnyH_done (by kernel_rfl) ?_ _
  go_wp2_with fail
  refine (iTry (unhide HP) (unhide HF).tr (unhide HF).now).mono ?_
  rintro r q9 ⟨rfl, h9⟩
  go_wp2
  have e9 : otV (askOf s.e) = txt (Op.bytes (askOf s.e)) := otV_yes (opOk_right (askOf_ok s.e))
  rw [e9] at h9
  exact Great.bodyPost_end0 rfl rfl ⟨rfl, _, _, h9⟩
end
end Go.Proofs.YtahpjlbaagkdoaaGreatDoor
