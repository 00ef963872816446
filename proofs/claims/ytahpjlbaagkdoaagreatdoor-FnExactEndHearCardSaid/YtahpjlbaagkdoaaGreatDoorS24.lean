/- The model's actions on an end at work: each is what it does in plain words; what lay in memory stands. Options put behind a row of options that the call made, and where the row lies then; no condition but those named. Two lines are compared field by field; and so the model's EndRight: is an End right; what lay in memory stands. -/
import Derived.Test.YtahpjlbaagkdoaaGreatDoorS16
import Derived.Test.YtahpjlbaagkdoaaGreatDoorS23
import Derived.Deep.RegionHeld
import Derived.Test.YtahpjlbaagkdoaaGreatDoorS13
import Derived.Maps.AppendAt
import Derived.Test.YtahpjlbaagkdoaaGreatDoorS11
import Derived.Laws.StructEq
import Derived.Test.YtahpjlbaagkdoaaGreatDoorShW
namespace Go.Proofs.YtahpjlbaagkdoaaGreatDoor
open Go.RowKit
theorem ttS : Tt 89 := ⟨by decide, by decide, by decide⟩
section
variable {w0 w1 : World} {B : Nat} {c : Cx} {s : St} {v1 v2 vs vt : Value} {q : World}
theorem sNext (h : Lay 89 w0 w1 B c s v1 v2 vs vt q) (hid : 0 ≤ s.e.id ∧ s.e.id ≤ 255) :
    Calls Tryz.prog 122 #[.pointer (some ⟨B, 0, none⟩)] q fun r q' => r = .returned (.int .i64 ((s.e.id + 1) % 256)) ∧ Lay 89 w0 w1 B c { s with e := nextE s.e } v1 v2 vs vt q' :=
  (wkNext B _ s.e.id q h.row rfl hid.1 hid.2).mono fun _ _ ⟨h1, h2⟩ => ⟨h1, h2 ▸ h.setRaw 15 _ (nextE s.e) rfl⟩
theorem sTry (h : Lay 89 w0 w1 B c s v1 v2 vs vt q) (htr : 0 ≤ s.e.tr ∧ s.e.tr ≤ 5) (hn : 0 ≤ c.now ∧ c.now ≤ 1000000000) :
    Calls Tryz.prog 123 #[.pointer (some ⟨B, 0, none⟩)] q fun r q' => r = .returned (.tuple #[]) ∧ Lay 89 w0 w1 B c { s with e := tryE c.now s.e } v1 v2 vs vt q' :=
  (wkTry B _ s.e.tr s.e.du c.now q h.row rfl rfl rfl htr.1 htr.2 hn.1 hn.2).mono fun _ _ ⟨h1, h2⟩ => ⟨h1, h2 ▸ (h.setRaw 13 _ { s.e with tr := max 0 (s.e.tr - 1) } rfl).setRaw 14 _ (tryE c.now s.e) rfl⟩
theorem sPut (h : Lay 89 w0 w1 B c s v1 v2 vs vt q) (hn : s.sn.length ≤ 1000) (cd id : Int) (dt : ByteArray) :
    Calls Tryz.prog 121 #[.pointer (some ⟨B, 0, none⟩), .int .i64 cd, .int .i64 id, .string dt] q fun r q' => r = .returned (.tuple #[]) ∧ ∃ vs', Lay 89 w0 w1 B c (putS s cd id dt) v1 v2 vs' vt q' := by
  refine (wkPut B w1.heap.size _ vs s.sn cd id dt q h.row rfl hn h.os (own_ty h.os h.row h.tt.2.1) h.nr.size).mono ?_
  rintro r q' ⟨h1, v, q2, rfl, ho, hg⟩
  refine ⟨h1, v, h.put _ hg v _ ?_⟩
  rw [List.length_append]
  exact ho
theorem sDown (h : Lay 89 w0 w1 B c s v1 v2 vs vt q) :
    Calls Tryz.prog 127 #[.pointer (some ⟨B, 0, none⟩), .bool false] q fun r q' => r = .returned (.tuple #[]) ∧ Lay 89 w0 w1 B c { s with e := downE s.e } v1 v2 vs vt q' := by
  refine (wkDown B (wkC c s.e v1 v2 vs vt) q rfl h.row).mono ?_
  rintro r q' ⟨h1, h2, h3⟩
  refine ⟨h1, ?_⟩
  have e : downC (wkC c s.e v1 v2 vs vt) = wkC c (downE s.e) v1 v2 vs vt := rfl
  rw [e] at h2
  exact h.ofNr h2 h3
set_option maxHeartbeats 4000000 in
set_option maxRecDepth 100000 in
theorem sIrc (h : Lay 89 w0 w1 B c s v1 v2 vs vt q) :
    Calls Tryz.prog 90 #[.pointer (some ⟨B, 0, none⟩), .string nIrc] q fun r q' => r = .returned (.tuple #[]) ∧ ∃ v1 v2 vs vt, Lay 89 w0 w1 B c (doIrc s) v1 v2 vs vt q' := by
  have c13 := h.cell (i := 13) rfl
  have f13 := h.frz 13
  have HL := hide h
  clear h
  go_enter Tryz.func90, Tryz.ntmps90
  go_wp2
  exact Great.bodyPost_end0 rfl rfl ⟨rfl, _, _, _, _, (unhide HL).setRaw 13 _ _ rfl⟩
set_option maxHeartbeats 4000000 in
set_option maxRecDepth 100000 in
theorem sZrc (h : Lay 89 w0 w1 B c s v1 v2 vs vt q) :
    Calls Tryz.prog 90 #[.pointer (some ⟨B, 0, none⟩), .string nZrc] q fun r q' => r = .returned (.tuple #[]) ∧ ∃ v1 v2 vs vt, Lay 89 w0 w1 B c (doZrc s) v1 v2 vs vt q' := by
  have c13 := h.cell (i := 13) rfl
  have f13 := h.frz 13
  have HL := hide h
  clear h
  go_enter Tryz.func90, Tryz.ntmps90
  go_wp2
  exact Great.bodyPost_end0 rfl rfl ⟨rfl, _, _, _, _, (unhide HL).setRaw 13 _ _ rfl⟩
set_option maxHeartbeats 4000000 in
set_option maxRecDepth 100000 in
theorem sStr (h : Lay 89 w0 w1 B c s v1 v2 vs vt q) {n : Nat} (hf : Fit n c s) (hn : n ≤ 1000) :
    Calls Tryz.prog 90 #[.pointer (some ⟨B, 0, none⟩), .string nStr] q fun r q' => r = .returned (.tuple #[]) ∧ ∃ v1 v2 vs vt, Lay 89 w0 w1 B c (doStr c s) v1 v2 vs vt q' := by
  have HF := hide hf
  have HL := hide h
  clear h hf
  go_enter Tryz.func90, Tryz.ntmps90
  go_wp2_with fail
  refine (sNext (unhide HL) (unhide HF).id).mono ?_
  rintro r q1 ⟨rfl, h1⟩
  have HL1 := hide h1
  clear h1
  go_wp2_with fail
  refine (sPut (unhide HL1) (Nat.le_trans (unhide HF).sn hn) 5 _ _).mono ?_
  rintro r q2 ⟨rfl, vs2, h2⟩
  have HL2 := hide h2
  clear h2
  go_wp2_with fail
  refine (sTry (unhide HL2) (unhide HF).tr (unhide HF).now).mono ?_
  rintro r q3 ⟨rfl, h3⟩
  go_wp2
  exact Great.bodyPost_end0 rfl rfl ⟨rfl, _, _, _, _, h3⟩
set_option maxHeartbeats 4000000 in
set_option maxRecDepth 100000 in
theorem sTls (h : Lay 89 w0 w1 B c s v1 v2 vs vt q) {n : Nat} (hf : Fit n c s) (hn : n ≤ 1000) :
    Calls Tryz.prog 90 #[.pointer (some ⟨B, 0, none⟩), .string nTls] q fun r q' => r = .returned (.tuple #[]) ∧ ∃ v1 v2 vs vt, Lay 89 w0 w1 B c (say nTls s) v1 v2 vs vt q' := by
  have c38 := h.cell (i := 38) rfl
  obtain ⟨ad, cp, rfl⟩ := own_form h.ot
  have hno : s.tl.length ≤ 1000 := Nat.le_trans hf.tl hn
  obtain ⟨k, hnn⟩ : ∃ k, s.tl.length = k := ⟨_, rfl⟩
  have ho := h.ot
  rw [hnn] at c38 ho hno h
  have HO := hide ho
  have HL := hide h
  clear h ho hf
  go_enter Tryz.func90, Tryz.ntmps90
  go_wp2_with (first
    | (at_builtin; refine append_txt rfl _ _ rfl w1.heap.size (.slice ad k cp) s.tl k hnn rfl (unhide HO) nTls rfl (by omega) (unhide HL).nr.size ?_; rintro v6 w6 ho6 hg6; obtain ⟨a6, c6, rfl⟩ := own_form ho6
       have e6 := (hg6.block B (Nat.lt_of_lt_of_le (unhide HL).lt (by simp)) (fun e => (own_ty (unhide HL).ot (unhide HL).row (unhide HL).tt.2.2) e.symm)).trans ((Below.heap_alloc _ _ _ (unhide HL).lt).trans (unhide HL).row)
       have k6 : w6.cell? ⟨B, 38, none⟩ = some (.slice ad k cp) := by rw [cell_of_row _ _ _ _ _ _ e6]; rfl
       have f6 : w6.frozen? ⟨B, 38, none⟩ = false := frz e6 38
       clear e6))
  refine Great.bodyPost_end0 rfl rfl ⟨rfl, _, _, _, _, (unhide HL).say _ hg6 _ _ ?_⟩
  rw [List.length_append, hnn]
  exact ho6
set_option maxHeartbeats 4000000 in
set_option maxRecDepth 100000 in
theorem sTlf (h : Lay 89 w0 w1 B c s v1 v2 vs vt q) {n : Nat} (hf : Fit n c s) (hn : n ≤ 1000) :
    Calls Tryz.prog 90 #[.pointer (some ⟨B, 0, none⟩), .string nTlf] q fun r q' => r = .returned (.tuple #[]) ∧ ∃ v1 v2 vs vt, Lay 89 w0 w1 B c (say nTlf s) v1 v2 vs vt q' := by
  have c38 := h.cell (i := 38) rfl
  obtain ⟨ad, cp, rfl⟩ := own_form h.ot
  have hno : s.tl.length ≤ 1000 := Nat.le_trans hf.tl hn
  obtain ⟨k, hnn⟩ : ∃ k, s.tl.length = k := ⟨_, rfl⟩
  have ho := h.ot
  rw [hnn] at c38 ho hno h
  have HO := hide ho
  have HL := hide h
  clear h ho hf
  go_enter Tryz.func90, Tryz.ntmps90
  go_wp2_with (first
    | (at_builtin; refine append_txt rfl _ _ rfl w1.heap.size (.slice ad k cp) s.tl k hnn rfl (unhide HO) nTlf rfl (by omega) (unhide HL).nr.size ?_; rintro v6 w6 ho6 hg6; obtain ⟨a6, c6, rfl⟩ := own_form ho6
       have e6 := (hg6.block B (Nat.lt_of_lt_of_le (unhide HL).lt (by simp)) (fun e => (own_ty (unhide HL).ot (unhide HL).row (unhide HL).tt.2.2) e.symm)).trans ((Below.heap_alloc _ _ _ (unhide HL).lt).trans (unhide HL).row)
       have k6 : w6.cell? ⟨B, 38, none⟩ = some (.slice ad k cp) := by rw [cell_of_row _ _ _ _ _ _ e6]; rfl
       have f6 : w6.frozen? ⟨B, 38, none⟩ = false := frz e6 38
       clear e6))
  refine Great.bodyPost_end0 rfl rfl ⟨rfl, _, _, _, _, (unhide HL).say _ hg6 _ _ ?_⟩
  rw [List.length_append, hnn]
  exact ho6
set_option maxHeartbeats 4000000 in
set_option maxRecDepth 100000 in
theorem sTld (h : Lay 89 w0 w1 B c s v1 v2 vs vt q) {n : Nat} (hf : Fit n c s) (hn : n ≤ 1000) :
    Calls Tryz.prog 90 #[.pointer (some ⟨B, 0, none⟩), .string nTld] q fun r q' => r = .returned (.tuple #[]) ∧ ∃ v1 v2 vs vt, Lay 89 w0 w1 B c (doTld s) v1 v2 vs vt q' := by
  have HF := hide hf
  have HL0 := hide h
  clear h hf
  go_enter Tryz.func90, Tryz.ntmps90
  go_wp2_with fail
  refine (sDown (unhide HL0)).mono ?_
  rintro r q1 ⟨rfl, h⟩
  have c38 := h.cell (i := 38) rfl
  obtain ⟨ad, cp, rfl⟩ := own_form h.ot
  have hno : s.tl.length ≤ 1000 := Nat.le_trans (unhide HF).tl hn
  obtain ⟨k, hnn⟩ : ∃ k, s.tl.length = k := ⟨_, rfl⟩
  have ho := h.ot
  dsimp only at c38 ho h
  rw [hnn] at c38 ho hno h
  have HO := hide ho
  have HL := hide h
  clear h ho HF HL0
  go_wp2_with (first
    | (at_builtin; refine append_txt rfl _ _ rfl w1.heap.size (.slice ad k cp) s.tl k hnn rfl (unhide HO) nTld rfl (by omega) (unhide HL).nr.size ?_; rintro v6 w6 ho6 hg6; obtain ⟨a6, c6, rfl⟩ := own_form ho6
       have e6 := (hg6.block B (Nat.lt_of_lt_of_le (unhide HL).lt (by simp)) (fun e => (own_ty (unhide HL).ot (unhide HL).row (unhide HL).tt.2.2) e.symm)).trans ((Below.heap_alloc _ _ _ (unhide HL).lt).trans (unhide HL).row)
       have k6 : w6.cell? ⟨B, 38, none⟩ = some (.slice ad k cp) := by rw [cell_of_row _ _ _ _ _ _ e6]; rfl
       have f6 : w6.frozen? ⟨B, 38, none⟩ = false := frz e6 38
       clear e6))
  refine Great.bodyPost_end0 rfl rfl ⟨rfl, _, _, _, _, (unhide HL).say _ hg6 _ _ ?_⟩
  rw [List.length_append, hnn]
  exact ho6
set_option maxHeartbeats 4000000 in
set_option maxRecDepth 100000 in
theorem sScr (h : Lay 89 w0 w1 B c s v1 v2 vs vt q) {n : Nat} (hf : Fit n c s) (hn : n ≤ 1000) :
    Calls Tryz.prog 90 #[.pointer (some ⟨B, 0, none⟩), .string nScr] q fun r q' => r = .returned (.tuple #[]) ∧ ∃ v1 v2 vs vt, Lay 89 w0 w1 B c (doScr c s) v1 v2 vs vt q' := by
  have HF := hide hf
  obtain ⟨e1, e2, e3⟩ := cfgNat hf.ask
  have CA := hide fun W => specL05 s.e.m2.toNat s.e.a2.toNat s.e.g2.toNat s.e.p2 s.e.c2 s.e.d2 W
  rw [e1, e2, e3] at CA
  clear e1 e2 e3
  have c6 := h.cell (i := 6) rfl
  have c7 := h.cell (i := 7) rfl
  have c8 := h.cell (i := 8) rfl
  have c9 := h.cell (i := 9) rfl
  have c10 := h.cell (i := 10) rfl
  have c11 := h.cell (i := 11) rfl
  have HL := hide h
  clear h hf
  go_enter Tryz.func90, Tryz.ntmps90
  go_wp2_with fail
  refine (unhide CA _).mono ?_
  rintro r q1 ⟨_, rfl, ad, cp, rfl, ho, hb⟩
  have h1 := (unhide HL).step hb
  have c17 := h1.cell (i := 17) rfl
  have f17 := h1.frz 17
  have HL1 := hide ((unhide HL).new1 hb _ (askOf s.e) ho)
  clear h1 ho hb HL CA c6 c7 c8 c9 c10 c11
  go_upto_region 10 with fail
  refine gen_world (fun z => Lay 89 w0 w1 B c { s with F1 := askOf s.e } (.slice ad (askOf s.e).length cp) v2 vs vt z) ?_ ?_
  · exact unhide HL1
  clear HL1 c17 f17
  rintro z hz
  have c17 := hz.cell (i := 17) rfl
  have HZ := hide (hz.step (Below.refl _ _).drew)
  clear hz
  refine wp_region_held_drew (S := fun z => z.cell? ⟨B, 17, none⟩ = some (.slice ad (askOf s.e).length cp)) (by kernel_rfl) ?_ (fun hHeld => ?_)
  · exact c17
  refine tk 0 (v := ?va0) rfl ?hya0 ?_
  case hya0 => intro w hSw; (try dsimp only at hSw); go_simp; try with_reducible rfl
  try simp only [Act.put, sA, sZ, sS, gA, gZ]
  refine tk 1 (v := ?va1) rfl ?hya1 ?_
  case hya1 => intro w hSw; (try dsimp only at hSw); go_simp; try with_reducible rfl
  try simp only [Act.put, sA, sZ, sS, gA, gZ, gS]
  refine tk 3 (v := ?va3) rfl ?hya3 ?_
  case hya3 => intro w hSw; (try dsimp only at hSw); go_simp; try with_reducible rfl
  try simp only [Act.put, sA, sZ, sS, gA, gZ, gS]
  refine tk 4 (v := ?va4) rfl ?hya4 ?_
  case hya4 => intro w hSw; (try dsimp only at hSw); go_simp; try with_reducible rfl
  try simp only [Act.put, sA, sZ, sS, gA, gZ, gS]
  refine tk 5 (v := ?va5) rfl ?hya5 ?_
  case hya5 => intro w hSw; (try dsimp only at hSw); go_simp; try with_reducible rfl
  try simp only [Act.put, sA, sZ, sS, gA, gZ, gS]
  refine tk 6 (v := ?va6) rfl ?hya6 ?_
  case hya6 => intro w hSw; (try dsimp only at hSw); go_simp; try with_reducible rfl
  try simp only [Act.put, sA, sZ, sS, gA, gZ, gS]
  refine tk 7 (v := ?va7) rfl ?hya7 ?_
  case hya7 => intro w hSw; (try dsimp only at hSw); go_simp; try with_reducible rfl
  try simp only [Act.put, sA, sZ, sS, gA, gZ, gS]
  refine r1 2 rfl (fun K hK => ?_)
  go_simp
  refine (sNext (unhide HZ) (unhide HF).id).mono ?_
  rintro r z1 ⟨rfl, h1⟩
  have HZ1 := hide h1
  clear h1
  go_wp2_with fail
  refine hK.out _ _ ?_ (fun _ => ?_)
  · exact (unhide HZ1).cell (i := 17) rfl
  clear hK K
  try simp only [Act.put, sA, sZ, sS, gA, gZ, gS]
  refine r1 8 rfl (fun K hK => ?_)
  go_simp
  refine (specL04 _ (askOf s.e) _ (opOk_right (askOf_ok s.e)) (HoldsO.own (unhide HZ1).o1)).mono ?_
  rintro r z2 ⟨rfl, hb2⟩
  have HZ2 := hide ((unhide HZ1).step hb2)
  clear hb2
  go_wp2_with fail
  refine hK.out _ _ ?_ (fun _ => ?_)
  · exact (unhide HZ2).cell (i := 17) rfl
  clear hK K
  try simp only [Act.put, sA, sZ, sS, gA, gZ, gS]
  refine r1 9 rfl (fun K hK => ?_)
  go_simp
  refine (sPut (unhide HZ2) (Nat.le_trans (unhide HF).sn hn) 1 _ _).mono ?_
  rintro r z3 ⟨rfl, vs3, h3⟩
  have HP := hide h3
  clear h3
  go_wp2_with fail
  refine hK.out _ _ ?_ (fun _ => ?_)
  · exact (unhide HP).cell (i := 17) rfl
  clear hK K
  try simp only [Act.put, sA, sZ, sS, gA, gZ, gS]
  refine wpAnyH_done (by kernel_rfl) ?_ _
  go_wp2_with fail
  refine (sTry (unhide HP) (unhide HF).tr (unhide HF).now).mono ?_
  rintro r q9 ⟨rfl, h9⟩
  go_wp2
  exact Great.bodyPost_end0 rfl rfl ⟨rfl, _, _, _, _, h9⟩
end
end Go.Proofs.YtahpjlbaagkdoaaGreatDoor
namespace Go.Proofs.YtahpjlbaagkdoaaGreatDoor
open Go.RowKit
theorem append_opt_at {wr : World} {ops : Array Oper} {rest : List Oper} {o : Oper} {a : Act} {Q : Exit → Act → World → Prop} (hgd : o.guard = none) (s x : Operand)
  (ho : o.op = .call { callee := .builtin .append, args := #[s, x], argTypes := #[25, 25] })
  (base : Nat) (v : Value) (F : List Op.Opt) (n : Nat) (hn : F.length = n) (hs : a.eval s = v) (hown : wr.ownsRow base 116 2 v n (ocells F)) (kd : Int) (dt : ByteArray) (hx : a.eval x = .slice (some ⟨wr.heap.size, 0, none⟩) 1 1) (hlen : n ≤ 1000) (hbase : base ≤ wr.heap.size)
  (h : ∀ v' w', w'.ownsRow base 116 2 v' (n + 1) (ocells (F ++ [⟨kd, dt⟩])) → (wr.alloc (.cells #[.int .i64 kd, .string dt] 116)).grownBy w' v.ownBlock → (v'.ownBlock = v.ownBlock ∨ v'.ownBlock = some (wr.heap.size + 1)) → wpList Tryz.prog ops Q rest (a.put o.dst v') w') : wpList Tryz.prog ops Q (o :: rest) a (wr.alloc (.cells #[.int .i64 kd, .string dt] 116)) := by
 obtain ⟨i0, hi0, hz0, hz1, hz2⟩ := oinfo
 refine wpList_append_own_at _ hgd s x 25 ho base 116 i0 _ 2 24 Tryz.underlying25 hi0 hz0 hz1 hz2 rfl (by decide) v n (ocells F) hs (hown.alloc _) ⟨wr.heap.size, 0, none⟩ 1 1 [.int .i64 kd, .string dt] hx rfl ?_ ?_ ?_ ?_ ?_ ?_
 ·intro i u hu
  rw [Addr.add_lit, Nat.zero_add, World.cell?_alloc_at _ _ _ _ rfl, ← hu]
  simp
 ·intro u hu
  simp only [List.mem_cons, List.not_mem_nil, or_false] at hu
  rcases hu with rfl | rfl <;> rfl
 ·unfold maxLen; omega
 ·omega
 ·simp; omega
 ·intro v' w2 hown2 hg2 _ hat
  refine h v' w2 ?_ hg2 (by simpa using hat)
  rw [ocells_append]
  exact hown2
theorem ocells_one (F : List Op.Opt) : ∀ u ∈ ocells F, u.oneCell' = true := by
 intro u hu
 simp only [ocells, List.mem_flatMap, List.mem_cons, List.not_mem_nil, or_false] at hu
 obtain ⟨f, _, rfl | rfl⟩ := hu <;> rfl
theorem run_append_od {W : World} {base : Nat} {v s : Value} {G F : List Op.Opt} (ty : TypeId) (hown : W.ownsRow base 116 2 v G.length (ocells G)) (hs : HoldsO W s F) (hG : G.length ≤ 1048576) (hF : F.length ≤ 1048576) (hbase : base ≤ W.heap.size) :
  ∃ v' W', (Builtin.append_ #[25, 25] ty #[v, s]).run Tryz.prog W = .ok v' W' ∧ W'.ownsRow base 116 2 v' (G ++ F).length (ocells (G ++ F)) ∧ W.grownBy W' v.ownBlock := by
 obtain ⟨i, hi, hz, hsz, hby⟩ := oinfo
 have key : ∀ (a : Addr) (cp : Nat), s = .slice (some a) F.length cp → (∀ j u, (ocells F)[j]? = some u → W.cell? (a.add j) = some u) →
   ∃ v' W', (Builtin.append_ #[25, 25] ty #[v, s]).run Tryz.prog W = .ok v' W' ∧ W'.ownsRow base 116 2 v' (G ++ F).length (ocells (G ++ F)) ∧ W.grownBy W' v.ownBlock := by
  rintro a cp rfl hn
  obtain ⟨v', W', h1, h2, h3, _⟩ := run_append_own (P := Tryz.prog) W base 25 ty 116 i _ 2 24 Tryz.underlying25 hi hz hsz hby rfl (by decide) v G.length (ocells G) hown a F.length cp (ocells F) (ocells_len F) hn (ocells_one F)
   (by unfold maxLen; omega) (by omega) hbase
  exact ⟨v', W', h1, by rw [List.length_append, ocells_append]; exact h2, h3⟩
 rcases hs with ⟨ad, cp, rfl, rfl⟩ | ⟨g, cp, cur, rfl, hg, hg2, hg3⟩
 ·cases ad with
  | some a => exact key a cp rfl (fun j u h => by cases h)
  | none =>
   refine ⟨v, W, ?_, by rw [List.append_nil]; exact hown, ⟨rfl, rfl, rfl, Nat.le_refl _, fun _ _ _ => rfl⟩⟩
   rcases hown.2 with ⟨rfl, _⟩ | ⟨g, cap, cur, rfl, _, _, hnc, _⟩
   ·simp [Builtin.append_, run_underlying Tryz.underlying25, sizeOf, typeInfo, hi, Builtin.lenOf, Builtin.firstCells]
   ·simp [Builtin.append_, run_underlying Tryz.underlying25, sizeOf, typeInfo, hi, Builtin.lenOf, Builtin.firstCells, hnc, storeCells]
 ·refine key ⟨g, 0, none⟩ cp rfl (fun j u h => ?_)
  have hadd : (⟨g, 0, none⟩ : Addr).add j = ⟨g, j, none⟩ := by unfold Addr.add; split <;> simp_all
  rw [hadd, cell_of_row _ _ _ _ _ _ hg, hg3 j (by have := (List.getElem?_eq_some_iff.1 h).1; rw [ocells_len] at this; exact this)]
  exact h
theorem append_od {W : World} {ops : Array Oper} {rest : List Oper} {o : Oper} {a : Act} {Q : Exit → Act → World → Prop} (hgd : o.guard = none) (s x : Operand)
  (ho : o.op = .call { callee := .builtin .append, args := #[s, x], argTypes := #[25, 25] })
  (base : Nat) (v sv : Value) (G F : List Op.Opt) (hs : a.eval s = v) (hx : a.eval x = sv) (hown : W.ownsRow base 116 2 v G.length (ocells G)) (hsv : HoldsO W sv F) (hG : G.length ≤ 1048576) (hF : F.length ≤ 1048576) (hbase : base ≤ W.heap.size)
  (h : ∀ v' w', w'.ownsRow base 116 2 v' (G ++ F).length (ocells (G ++ F)) → W.grownBy w' v.ownBlock → wpList Tryz.prog ops Q rest (a.put o.dst v') w') : wpList Tryz.prog ops Q (o :: rest) a W := by
 refine wpList_plain hgd fun K hK => ?_
 obtain ⟨v', w', hr, h2, h3⟩ := run_append_od (W := W) o.type hown hsv hG hF hbase
 unfold Oper.wp execOp
 simp only [ho, resolve, invoke, builtin, Sem.run_bind, Sem.run_pure, Result.andThen_ok, List.map_toArray, List.map_cons, List.map_nil, hs, hx, hr]
 exact hK _ _ (h v' w' h2 h3)
theorem own_blk {w w' : World} {base : Nat} {e : TypeId} {size : Nat} {v : Value} {n : Nat} {xs : List Value} (h : w.ownsRow base e size v n xs) (hb : ∀ g, v.ownBlock = some g → w'.heap[g]? = w.heap[g]?) : w'.ownsRow base e size v n xs :=
 ⟨h.1, h.2.imp id fun ⟨g, cap, cur, h1, h2, h3, h4⟩ => ⟨g, cap, cur, h1, h2, (hb g (by rw [h1]; rfl)).trans h3, h4⟩⟩
end Go.Proofs.YtahpjlbaagkdoaaGreatDoor
namespace Go.Proofs.YtahpjlbaagkdoaaGreatDoor
open Go.RowKit
theorem eqL : EqL := by
 refine ⟨fun m a m' a' p c d p' c' d' W => ?_, fun x y xs ys W => run_eqGuard_agg W .eql 27 x y xs ys (by kernel_rfl)⟩
 rw [run_eql_struct, run_equalIn_agg W 9999 27 _ _ (by kernel_rfl) (by kernel_rfl)]
 cases h1 : (m == m') <;> cases h2 : (a == a') <;> cases h3 : (p == p') <;> cases h4 : (c == c') <;> cases h5 : (d == d') <;> (go_simp; try rfl)
theorem specEndRight (e : En) (x1 x2 : Option Addr) (y1 y2 : Nat) (F1 F2 : List Op.Opt) (w : World) (l1 : F1.length ≤ maxLen) (l2 : F2.length ≤ maxLen) (h1 : HoldsO w (.slice x1 F1.length y1) F1) (h2 : HoldsO w (.slice x2 F2.length y2) F2) :
  Calls Tryz.prog 34 #[.agg (enC e (.slice x1 F1.length y1) (.slice x2 F2.length y2))] w fun r w' => r = .returned (.bool (enOk e F1 F2)) ∧ Below w.heap.size w w' :=
 specEndRight_of e x1 x2 y1 y2 F1 F2 w l1 l2 h1 h2 eqL
end Go.Proofs.YtahpjlbaagkdoaaGreatDoor
