/- A text put behind a row of bytes that the call made; no condition but those named. OptionsBytes, the program's and the model's: of any options their bytes; what lay in memory stands. A number as a pair of bytes, the program's; a block of its own is made. -/
import Derived.Test.YtghopihgnmnlcaaGreatDoorS05
import Derived.Lib.AppendStr
import Derived.ArgAppend
import Derived.Test.YtghopihgnmnlcaaGreatDoorS11
import Derived.Deep.RegionHeld3
import Derived.Deep.AppendLies
namespace Go.Proofs.YtghopihgnmnlcaaGreatDoor
open Go.RowKit
theorem str_vals (t : ByteArray) : Lib.strCells t = vals t.data.toList := by
  simp [Lib.strCells, vals, nums]
theorem str_append {w : World} {ops : Array Oper} {rest : List Oper} {o : Oper} {a : Act} {Q : Exit → Act → World → Prop} (hgd : o.guard = none) (s x : Operand)
    (ho : o.op = .call { callee := .builtin .append, args := #[s, x], argTypes := #[22, 9] })
    (base : Nat) (v : Value) (L : List UInt8) (hs : a.eval s = v) (hown : w.ownsRow base 5 1 v L.length (vals L)) (t : ByteArray) (hx : a.eval x = .string t) (hlen : L.length + t.size ≤ 1000000) (hbase : base ≤ w.heap.size)
    (h : ∀ v' w', w'.ownsRow base 5 1 v' (L.length + t.size) (vals (L ++ t.data.toList)) → Below base w w' → wpList Tryz.prog ops Q rest (a.put o.dst v') w') : wpList Tryz.prog ops Q (o :: rest) a w := by
  obtain ⟨ui, hi1, hi2, hi3, hi4⟩ := u8info
  refine Lib.wpList_append_own_string w hgd s x 22 9 ho base 5 ui Tryz.underlying22 Tryz.underlying9 hi1 hi2 hi3 hi4 v L.length (vals L) hs hown t hx (by unfold maxLen; omega) (by omega) hbase ?_
  intro v' w' h1 h2 _
  refine h v' w' ?_ ((Below.refl _ _).grown h2 hbase (fun q hq => (World.ownsRow.lt hown q hq).1))
  rw [vals_append, ← str_vals]
  exact h1
theorem txt_append (l m : List UInt8) : txt (l ++ m) = txt l ++ txt m := by
  apply ByteArray.ext
  simp [txt]
end Go.Proofs.YtghopihgnmnlcaaGreatDoor
namespace Go.Proofs.YtghopihgnmnlcaaGreatDoor
open Go.RowKit
/-- What OptionsBytes answers. -/
def otV (F : List Op.Opt) : ByteArray := txt (Op.told F)
theorem otV_no {F : List Op.Opt} (h : Op.right F = false) : otV F = ⟨#[]⟩ := by unfold otV Op.told; rw [if_neg (by rw [h]; decide)]; rfl
theorem otV_yes {F : List Op.Opt} (h : Op.right F = true) : otV F = txt (Op.bytes F) := by unfold otV Op.told; rw [if_pos h]
theorem ok_get {o : Op.Opt} (h : Op.ok o = true) : ∃ k n : UInt8, o.kind = (k.toNat : Int) ∧ (o.data.size : Int) + 2 = (n.toNat : Int) ∧ o.data.size ≤ 20 ∧ Op.one o = [k, n] ++ o.data.data.toList := by
  have h' := of_decide_eq_true h
  refine ⟨UInt8.ofNat o.kind.toNat, UInt8.ofNat (o.data.size + 2), ?_, ?_, h'.2.2, rfl⟩
  · have : (UInt8.ofNat o.kind.toNat).toNat = o.kind.toNat := by simp; omega
    omega
  · have : (UInt8.ofNat (o.data.size + 2)).toNat = o.data.size + 2 := by simp; omega
    omega
theorem uB8 : ∀ c : UInt8, IntKind.u8.wrap (c.toNat : Int) = (c.toNat : Int) := fun c => by rw [IntKind.wrap_u8]; have := c.toNat_lt; omega
theorem nB8 : ∀ c : UInt8, (c.toNat : Int) % 256 = (c.toNat : Int) := fun c => by have := c.toNat_lt; omega
theorem wrap_len (t : ByteArray) (h : t.size ≤ 20) : IntKind.u8.wrap (IntKind.i64.wrap ((t.size : Int) + 2)) = (t.size : Int) + 2 := by
  rw [IntKind.wrap_i64, IntKind.wrap_u8]
  omega
theorem take_bytes (F : List Op.Opt) (i : Nat) (hi : i < F.length) : Op.bytes (F.take (i + 1)) = Op.bytes (F.take i) ++ Op.one F[i] := by
  rw [List.take_succ_eq_append_getElem hi, Op.bytes_snoc]
theorem bytes_take_len {F : List Op.Opt} (h : Op.right F = true) (i : Nat) : (Op.bytes (F.take i)).length ≤ 440 := by
  have h1 := Op.bytes_len (l := F.take i) fun o ho => Op.right_all h o (List.mem_of_mem_take ho)
  have h2 := Op.right_len h
  rw [List.length_take] at h1
  omega
set_option maxHeartbeats 2000000 in
theorem implBytes0 (ad : Option Addr) (cp : Nat) (w : World) : Calls Tryz.prog 115 #[.slice ad 0 cp] w fun e w' => e = .returned (.string ⟨#[]⟩) ∧ Below w.heap.size w w' := by
  have hcv : ∀ w1 : World, (convert 22 9 (.slice none 0 0)).run Tryz.prog w1 = .ok (.string ⟨#[]⟩) w1 := fun w1 => own_conv (l := []) (base := 0) ⟨rfl, Or.inl ⟨rfl, rfl⟩⟩
  go_enter Tryz.func115, Tryz.ntmps115
  go_wp2_with fail
  refine (implRight0 ad cp w).mono ?_
  rintro e w1 ⟨rfl, hb1⟩
  go_wp2_with fail
  go_loopw [3, 11] (fun x y wr => x = .slice none 0 0 ∧ y = .int .i64 0 ∧ wr = w1) (fun _ _ _ => 0)
  case atStart => exact ⟨rfl, rfl, rfl⟩
  case round =>
    obtain ⟨rfl, rfl, rfl⟩ := hrel
    go_wp2
    go_ret
    exact ⟨rfl, hb1⟩
theorem append_bytes_g {wr : World} {cs : Array Value} {ops : Array Oper} {rest : List Oper} {o : Oper} {a : Act} {Q : Exit → Act → World → Prop} (hgd : o.guard = none) (s x : Operand)
    (ho : o.op = .call { callee := .builtin .append, args := #[s, x], argTypes := #[22, 22] })
    (base : Nat) (v : Value) (L news : List UInt8) (hs : a.eval s = v) (hown : wr.ownsRow base 5 1 v L.length (vals L))
    (m : Nat) (hm : news.length = m) (hx : a.eval x = .slice (some ⟨wr.heap.size, 0, none⟩) m m) (hcs : cs.toList = vals news) (hlen : L.length + news.length ≤ 10000000) (hbase : base ≤ wr.heap.size)
    (h : ∀ v' w', w'.ownsRow base 5 1 v' (L ++ news).length (vals (L ++ news)) → Below base wr w' → (∀ k, k < wr.heap.size → v.ownBlock ≠ some k → w'.heap[k]? = wr.heap[k]?) → wr.heap.size ≤ w'.heap.size → wpList Tryz.prog ops Q rest (a.put o.dst v') w') : wpList Tryz.prog ops Q (o :: rest) a (wr.alloc (.cells cs 5)) := by
  obtain ⟨ui, hi1, hi2, hi3, hi4⟩ := u8info
  subst hm
  refine wpList_append_own _ hgd s x 22 ho base 5 ui (.int .u8 0) 1 1 Tryz.underlying22 hi1 hi2 hi3 hi4 rfl (by decide) v L.length (vals L) hs (hown.alloc _) ⟨wr.heap.size, 0, none⟩ news.length news.length (vals news) hx (by rw [vals_len, Nat.mul_one]) ?_ ?_ ?_ ?_ ?_ ?_
  · intro i u hu
    rw [Addr.add_lit, Nat.zero_add, World.cell?_alloc_at _ _ _ _ rfl, ← hu, ← hcs, Array.getElem?_toList]
  · intro u hu
    simp only [vals, nums, List.map_map, List.mem_map] at hu
    obtain ⟨x, _, rfl⟩ := hu
    rfl
  · unfold maxLen; omega
  · omega
  · simp; omega
  · intro v' w2 hown2 hg2 _
    have hsz := hg2.size
    refine h v' w2 ?_ ?_ (fun k hk hne => (hg2.block k (by simp; omega) (Ne.symm hne)).trans (Below.heap_alloc _ _ _ hk)) (by simp at hsz; omega)
    · rw [vals_append, List.length_append]; exact hown2
    · exact ((Below.refl _ _).alloc hbase _).grown hg2 (by simp; omega) (fun q hq => by exact (World.ownsRow.lt hown q hq).1)
theorem str_append_n {w : World} {ops : Array Oper} {rest : List Oper} {o : Oper} {a : Act} {Q : Exit → Act → World → Prop} (hgd : o.guard = none) (s x : Operand)
    (ho : o.op = .call { callee := .builtin .append, args := #[s, x], argTypes := #[22, 9] })
    (base : Nat) (v : Value) (L : List UInt8) (n : Nat) (hn : L.length = n) (hs : a.eval s = v) (hown : w.ownsRow base 5 1 v n (vals L)) (t : ByteArray) (hx : a.eval x = .string t) (hlen : n + t.size ≤ 1000000) (hbase : base ≤ w.heap.size)
    (h : ∀ v' w', w'.ownsRow base 5 1 v' (n + t.size) (vals (L ++ t.data.toList)) → Below base w w' → wpList Tryz.prog ops Q rest (a.put o.dst v') w') : wpList Tryz.prog ops Q (o :: rest) a w := by
  subst hn
  exact str_append hgd s x ho base v L hs hown t hx hlen hbase h
set_option maxHeartbeats 4000000 in
theorem implBytesG (g cp : Nat) (F : List Op.Opt) (cur : Array Value) (w : World) (hm : F.length ≤ maxLen) (h1 : w.heap[g]? = some (.cells cur 118)) (a1 : ∀ j, j < F.length * 2 → cur[j]? = (ocells F)[j]?) :
    Calls Tryz.prog 115 #[.slice (some ⟨g, 0, none⟩) F.length cp] w fun e w' => e = .returned (.string (otV F)) ∧ Below w.heap.size w w' := by
  have C := hide (implRightG g cp F cur w hm h1 a1)
  have hl1 : g < w.heap.size := (Array.getElem?_eq_some_iff.1 h1).1
  obtain ⟨n, hn⟩ : ∃ n, F.length = n := ⟨_, rfl⟩
  cases hr : Op.right F
  · rw [hr] at C
    rw [otV_no hr, hn]
    rw [hn] at C
    clear hr a1
    go_enter Tryz.func115, Tryz.ntmps115
    go_wp2_with fail
    refine (unhide C).mono ?_
    rintro e w1 ⟨rfl, hb1⟩
    go_wp2
    go_ret
    exact ⟨rfl, hb1⟩
  · rw [hr] at C
    rw [otV_yes hr, hn]
    rw [hn] at C
    have hn20 := Op.right_len hr
    have HA : Hid (∀ i (hi : i < n), cur[i * 2]? = some (.int .i64 (F[i]'(by omega)).kind) ∧ cur[i * 2 + 1]? = some (.string (F[i]'(by omega)).data)) := by
      refine hide fun i hi => ?_
      have q := ocells_get F i (F[i]'(by omega)) (List.getElem?_eq_getElem (by omega))
      exact ⟨(a1 _ (by omega)).trans q.1, (a1 _ (by omega)).trans q.2⟩
    have HK : Hid (∀ i (hi : i < n), Op.ok (F[i]'(by omega)) = true) := hide fun i hi => Op.right_all hr _ (List.getElem_mem _)
    have HT : Hid (∀ i (hi : i < n), Op.bytes (F.take (i + 1)) = Op.bytes (F.take i) ++ Op.one (F[i]'(by omega))) := hide fun i hi => take_bytes F i (by omega)
    have HLB : Hid (∀ i, (Op.bytes (F.take i)).length ≤ 440) := hide fun i => bytes_take_len hr i
    have HEND : Hid (F.take n = F) := hide (List.take_of_length_le (by omega))
    clear a1 hm hr
    go_enter Tryz.func115, Tryz.ntmps115
    go_wp2_with fail
    refine (unhide C).mono ?_
    rintro e w1 ⟨rfl, hb1⟩
    clear C
    go_wp2_with fail
    go_loopw [3, 11] (fun x y wr => ∃ (i : Nat), i ≤ n ∧ y = .int .i64 i ∧ (∃ a c, x = .slice a (Op.bytes (F.take i)).length c) ∧ wr.ownsRow w.heap.size 5 1 x (Op.bytes (F.take i)).length (vals (Op.bytes (F.take i))) ∧ Below w.heap.size w wr) (fun _ y _ => n - (intOf y).toNat)
    case atStart => exact ⟨0, Nat.zero_le _, rfl, ⟨_, _, rfl⟩, ⟨rfl, Or.inl ⟨rfl, rfl⟩⟩, hb1⟩
    case round =>
      obtain ⟨i, hi, rfl, ⟨xa, xc, rfl⟩, hown, hb⟩ := hrel
      have hbs := hb.size
      by_cases hlt : i < n
      · have d1 : (i : Int) < (n : Int) := by omega
        obtain ⟨q1, q2⟩ := unhide HA i hlt
        have e1 := (hb.block g hl1).trans h1
        have hbt := unhide HT i hlt
        have hlb := unhide HLB i
        obtain ⟨k, m, hk, hm2, hd20, hone⟩ := ok_get (unhide HK i hlt)
        generalize hO : F[i]'(by omega) = op at *
        obtain ⟨kd, dt⟩ := op
        dsimp only at q1 q2 hk hm2 hd20 hone
        subst hk
        have k0 : wr.cell? ⟨g, i * 2, none⟩ = some (.int .i64 k.toNat) := by rw [cell_of_row _ _ _ _ _ _ e1]; exact q1
        have k1 : wr.cell? ⟨g, i * 2 + 1, none⟩ = some (.string dt) := by rw [cell_of_row _ _ _ _ _ _ e1]; exact q2
        rw [hone] at hbt
        have HBT := hide hbt
        generalize Op.bytes (F.take i) = L at *
        have HM : Hid (2 + (dt.size : Int) = (m.toNat : Int)) := hide (by omega)
        have HOW := hide hown
        have wb := uB8
        have mb := nB8
        have hgr : g < wr.heap.size := Nat.lt_of_lt_of_le hl1 hbs
        have hgr' : ¬ (g = wr.heap.size) := by omega
        have HNE : Hid ((Value.slice xa L.length xc).ownBlock ≠ some wr.heap.size) := hide fun e => by have := World.ownsRow.lt (unhide HOW) _ e; omega
        have hmlt := m.toNat_lt
        clear q1 q2 e1 hbt hone hO hown HA HK HT HLB h1
        go_upto_region 7 with fail
        refine gen_world (fun q => q.heap[wr.heap.size]? = some (.cells #[.int .i64 k.toNat, .string dt] 118) ∧ q.ownsRow w.heap.size 5 1 (.slice xa L.length xc) L.length (vals L) ∧ Below w.heap.size w q ∧ wr.heap.size < q.heap.size)
          ⟨heap_alloc_new wr _, (unhide HOW).alloc _, hb.alloc hbs _, by simp⟩ ?_
        rintro q ⟨hop, hoq, hbq, hlq⟩
        have c0 : q.cell? ⟨wr.heap.size, 0, none⟩ = some (.int .i64 k.toNat) := by rw [cell_of_row _ _ _ _ _ _ hop]; rfl
        have c1 : q.cell? ⟨wr.heap.size, 1, none⟩ = some (.string dt) := by rw [cell_of_row _ _ _ _ _ _ hop]; rfl
        have HOQ := hide hoq
        have HOP := hide hop
        have hbqs := hbq.size
        clear hop hoq k0 k1 HOW hgr hgr'
        go_wp2_with (first
          | (at_builtin; refine append_bytes_g rfl _ _ rfl w.heap.size (.slice xa L.length xc) L [k, m] rfl (unhide HOQ) 2 rfl rfl (by show [_, _] = vals [k, m]; rw [vals_two, ← unhide HM]) (by simp; omega) hbqs ?_; rintro v2 w2 ho2 hb2 hk2 hs2; rw [show (L ++ [k, m]).length = L.length + 2 by simp] at ho2; obtain ⟨a2, c2, rfl⟩ := own_form ho2; have hop2 := (hk2 wr.heap.size hlq (unhide HNE)).trans (unhide HOP); have e1 : w2.cell? ⟨wr.heap.size, 1, none⟩ = some (.string dt) := by { rw [cell_of_row _ _ _ _ _ _ hop2]; rfl }; have hB2 := hbq.trans hb2; have hB2s := hB2.size; have HO2 := hide ho2; clear ho2 hop2 hk2 hb2 HOQ HOP HNE HM)
          | (at_builtin; refine str_append_n rfl _ _ rfl w.heap.size _ (L ++ [k, m]) (L.length + 2) (by simp) rfl (unhide HO2) dt rfl (by omega) hB2s ?_; rintro v3 w3 ho3 hb3; obtain ⟨a3, c3, rfl⟩ := own_form ho3; have HO3 := hide ho3; clear ho3 HO2))
        go_roundw
        case rel =>
          have hdl : dt.data.toList.length = dt.size := by rw [Array.length_toList]; rfl
          have hlen : L.length + 2 + dt.size = (Op.bytes (F.take (i + 1))).length := by rw [unhide HBT, List.length_append, List.length_append, hdl]; simp; omega
          have hbys : L ++ [k, m] ++ dt.data.toList = Op.bytes (F.take (i + 1)) := by rw [unhide HBT, List.append_assoc]
          refine ⟨i + 1, by omega, by go_num, ⟨a3, c3, by rw [← hlen]⟩, ?_, hB2.trans hb3⟩
          have h := unhide HO3
          rw [hlen, hbys] at h
          rw [hlen]
          exact h
        case measure => simp [intOf]; omega
      · have e : i = n := by omega
        subst e
        have d1 : ¬ ((i : Int) < (i : Int)) := by omega
        rw [unhide HEND] at hown ⊢
        have hcv := own_conv hown
        go_wp2
        go_ret
        exact ⟨rfl, hb⟩
theorem implBytesAll (v : Value) (F : List Op.Opt) (w : World) (hm : F.length ≤ maxLen) (h : HoldsO w v F) :
    Calls Tryz.prog 115 #[v] w fun e w' => e = .returned (.string (otV F)) ∧ Below w.heap.size w w' := by
  rcases h with ⟨ad, cp, rfl, rfl⟩ | ⟨g, cp, cur, rfl, h2, _, h4⟩
  · exact implBytes0 ad cp w
  · exact implBytesG g cp F cur w hm h2 h4
set_option maxHeartbeats 2000000 in
theorem specBy0 (ad : Option Addr) (cp : Nat) (w : World) : Calls Tryz.prog 50 #[.slice ad 0 cp] w fun e w' => e = .returned (.string ⟨#[]⟩) ∧ Below w.heap.size w w' := by
  have h0 : (w.alloc (.cells #[] 5)).ownsRow w.heap.size 5 1 (.slice (some ⟨w.heap.size, 0, none⟩) 0 0) 0 (vals []) := World.ownsRow_lit w #[] 0 (by omega) (Nat.zero_le _) rfl
  have hcv := own_conv h0
  go_enter Tryz.func50, Tryz.ntmps50
  go_wp2_with fail
  go_loopw [3, 4] (fun x y wr => x = .slice (some ⟨w.heap.size, 0, none⟩) 0 0 ∧ y = .int .i64 0 ∧ wr = w.alloc (.cells #[] 5)) (fun _ _ _ => 0)
  case atStart => exact ⟨rfl, rfl, rfl⟩
  case round =>
    obtain ⟨rfl, rfl, rfl⟩ := hrel
    go_wp2
    go_ret
    exact ⟨rfl, (Below.refl _ _).alloc (Nat.le_refl _) _⟩
set_option maxHeartbeats 4000000 in
theorem specByG (g cp : Nat) (F : List Op.Opt) (cur : Array Value) (w : World) (hr : Op.right F = true) (h1 : w.heap[g]? = some (.cells cur 118)) (a1 : ∀ j, j < F.length * 2 → cur[j]? = (ocells F)[j]?) :
    Calls Tryz.prog 50 #[.slice (some ⟨g, 0, none⟩) F.length cp] w fun e w' => e = .returned (.string (txt (Op.bytes F))) ∧ Below w.heap.size w w' := by
  obtain ⟨ui, hi1, hi2, hi3, hi4⟩ := u8info
  have hl1 : g < w.heap.size := (Array.getElem?_eq_some_iff.1 h1).1
  obtain ⟨n, hn⟩ : ∃ n, F.length = n := ⟨_, rfl⟩
  rw [hn]
  have hn20 := Op.right_len hr
  have HA : Hid (∀ i (hi : i < n), cur[i * 2]? = some (.int .i64 (F[i]'(by omega)).kind) ∧ cur[i * 2 + 1]? = some (.string (F[i]'(by omega)).data)) := by
    refine hide fun i hi => ?_
    have q := ocells_get F i (F[i]'(by omega)) (List.getElem?_eq_getElem (by omega))
    exact ⟨(a1 _ (by omega)).trans q.1, (a1 _ (by omega)).trans q.2⟩
  have HK : Hid (∀ i (hi : i < n), Op.ok (F[i]'(by omega)) = true) := hide fun i hi => Op.right_all hr _ (List.getElem_mem _)
  have HT : Hid (∀ i (hi : i < n), Op.bytes (F.take (i + 1)) = Op.bytes (F.take i) ++ Op.one (F[i]'(by omega))) := hide fun i hi => take_bytes F i (by omega)
  have HLB : Hid (∀ i, (Op.bytes (F.take i)).length ≤ 440) := hide fun i => bytes_take_len hr i
  have HEND : Hid (F.take n = F) := hide (List.take_of_length_le (by omega))
  clear a1 hr
  go_enter Tryz.func50, Tryz.ntmps50
  go_wp2_with fail
  go_loopw [3, 4] (fun x y wr => ∃ (i : Nat), i ≤ n ∧ y = .int .i64 i ∧ (∃ a c, x = .slice a (Op.bytes (F.take i)).length c) ∧ wr.ownsRow w.heap.size 5 1 x (Op.bytes (F.take i)).length (vals (Op.bytes (F.take i))) ∧ Below w.heap.size w wr) (fun _ y _ => n - (intOf y).toNat)
  case atStart => exact ⟨0, Nat.zero_le _, rfl, ⟨_, _, rfl⟩, World.ownsRow_lit w #[] 0 (by omega) (Nat.zero_le _) rfl, (Below.refl _ _).alloc (Nat.le_refl _) _⟩
  case round =>
    obtain ⟨i, hi, rfl, ⟨xa, xc, rfl⟩, hown, hb⟩ := hrel
    have hbs := hb.size
    by_cases hlt : i < n
    · have d1 : (i : Int) < (n : Int) := by omega
      have d0 : (0 : Int) ≤ (i : Int) := by omega
      obtain ⟨q1, q2⟩ := unhide HA i hlt
      have e1 := (hb.block g hl1).trans h1
      have hbt := unhide HT i hlt
      have hlb := unhide HLB i
      obtain ⟨k, m, hk, hm2, hd20, hone⟩ := ok_get (unhide HK i hlt)
      generalize hO : F[i]'(by omega) = op at *
      obtain ⟨kd, dt⟩ := op
      dsimp only at q1 q2 hk hm2 hd20 hone
      subst hk
      have k0 : wr.cell? ⟨g, i * 2, none⟩ = some (.int .i64 k.toNat) := by rw [cell_of_row _ _ _ _ _ _ e1]; exact q1
      have k1 : wr.cell? ⟨g, i * 2 + 1, none⟩ = some (.string dt) := by rw [cell_of_row _ _ _ _ _ _ e1]; exact q2
      rw [hone] at hbt
      have HBT := hide hbt
      generalize Op.bytes (F.take i) = L at *
      have HM : Hid ((dt.size : Int) + 2 = (m.toNat : Int)) := hide hm2
      have HOW := hide hown
      have wb := uB8
      have mb := nB8
      have hgr : g < wr.heap.size := Nat.lt_of_lt_of_le hl1 hbs
      have hNE : (Value.slice xa L.length xc).ownBlock ≠ some g := fun e => by have := World.ownsRow.lt (unhide HOW) _ e; omega
      have HC : Hid ([Value.int .u8 (k.toNat : Int), .int .u8 (IntKind.u8.wrap (IntKind.i64.wrap ((dt.size : Int) + 2)))] = vals [k, m]) := hide (by rw [vals_two, ← hm2, wrap_len dt hd20])
      clear q1 q2 e1 hbt hone hO hown HA HK HT HLB h1 hm2
      go_wp2_with fail
      go_region_held3 (fun z => z.cell? ⟨g, i * 2, none⟩ = some (.int .i64 k.toNat) ∧ z.cell? ⟨g, i * 2 + 1, none⟩ = some (.string dt))
        (first
          | go_keep
          | (go_split_ands
             refine ⟨?_, ?_⟩
             · (rw [hgrow.cell_far _ (by simp; omega) (Ne.symm hNE)]; assumption)
             · (rw [hgrow.cell_far _ (by simp; omega) (Ne.symm hNE)]; assumption)))
        ((refine step_append_lies _ (by rfl) _ _ _ (by rfl) w.heap.size 5 ui _ 1 1 Tryz.underlying22 hi1 hi2 hi3 hi4 rfl (by omega) (.slice xa L.length xc) L.length (vals L) (by rfl) (((unhide HOW).alloc _).drew)
            ⟨wr.heap.size, 0, none⟩ 2 2 [.int .u8 k.toNat, .int .u8 (IntKind.u8.wrap (IntKind.i64.wrap ((dt.size : Int) + 2)))] (by rfl) (by rfl) (World.news_of_block (cs := #[.int .u8 k.toNat, .int .u8 (IntKind.u8.wrap (IntKind.i64.wrap ((dt.size : Int) + 2)))]) (t := 5) (fr := (0, 0)) (heap_alloc_new wr _)) (by simp [Value.oneCell'])
            (by omega) (by unfold maxLen; omega) (by omega) (by simp; omega) (wr.heap.size + 1) (by simp) ?_; intro gg cap3 w3 hown3 hgrow hat hlt3))
      all_goals
        rw [unhide HC, ← vals_append] at hown3
        have e1 : w3.cell? ⟨g, i * 2 + 1, none⟩ = some (.string dt) := by
          rw [hgrow.cell_far ⟨g, i * 2 + 1, none⟩ (by simp; omega) (Ne.symm hNE)]
          exact (((Below.refl wr.heap.size wr).alloc (Nat.le_refl _) _).drew.cell (p := ⟨g, i * 2 + 1, none⟩) hgr).trans k1
        have hbw3 : Below w.heap.size w w3 := ((hb.alloc hbs _).drew).grown hgrow (by simp; omega) (fun p hp => (World.ownsRow.lt (unhide HOW) p hp).1)
        have hbs3 := hbw3.size
        have HO2 := hide hown3
        clear hown3 hgrow hat HOW HC HM k0 k1
        go_wp2_with (first
          | (at_builtin; refine str_append_n rfl _ _ rfl w.heap.size _ (L ++ [k, m]) (L.length + 2) (by simp) rfl (unhide HO2) dt rfl (by omega) hbs3 ?_; rintro v3 w4 ho3 hb3; obtain ⟨a3, c3, rfl⟩ := own_form ho3; have HO3 := hide ho3; clear ho3 HO2))
        go_roundw
        case rel =>
          have hdl : dt.data.toList.length = dt.size := by rw [Array.length_toList]; rfl
          have hlen : L.length + 2 + dt.size = (Op.bytes (F.take (i + 1))).length := by rw [unhide HBT, List.length_append, List.length_append, hdl]; simp; omega
          have hbys : L ++ [k, m] ++ dt.data.toList = Op.bytes (F.take (i + 1)) := by rw [unhide HBT, List.append_assoc]
          refine ⟨i + 1, by omega, by go_num, ⟨a3, c3, by rw [← hlen]⟩, ?_, hbw3.trans hb3⟩
          have h := unhide HO3
          rw [hlen, hbys] at h
          rw [hlen]
          exact h
        case measure => simp [intOf]; omega
    · have e : i = n := by omega
      subst e
      have d1 : ¬ ((i : Int) < (i : Int)) := by omega
      rw [unhide HEND] at hown ⊢
      have hcv := own_conv hown
      go_wp2
      go_ret
      exact ⟨rfl, hb⟩
set_option maxHeartbeats 1000000 in
theorem specBytesAll (v : Value) (F : List Op.Opt) (w : World) (hm : F.length ≤ maxLen) (h : HoldsO w v F) :
    Calls Tryz.prog 33 #[v] w fun e w' => e = .returned (.string (otV F)) ∧ Below w.heap.size w w' := by
  have C := hide (specRightAll v F w hm h)
  obtain ⟨ad, cp, hv⟩ := h.form
  cases hr : Op.right F
  · rw [hr] at C
    rw [otV_no hr]
    subst hv
    clear hr
    go_enter Tryz.func33, Tryz.ntmps33
    go_wp2_with fail
    refine (unhide C).mono ?_
    rintro e w1 ⟨rfl, hb1⟩
    go_wp2
    go_ret
    exact ⟨rfl, hb1⟩
  · rw [hr] at C
    rw [otV_yes hr]
    have C2 : Hid (∀ w1, Below w.heap.size w w1 → Calls Tryz.prog 50 #[v] w1 fun e w' => e = .returned (.string (txt (Op.bytes F))) ∧ Below w1.heap.size w1 w') := by
      refine hide fun w1 hb => ?_
      rcases h.below hb rfl with ⟨ad, cp, rfl, rfl⟩ | ⟨g, cp, cur, rfl, h2, _, h4⟩
      · exact specBy0 ad cp w1
      · exact specByG g cp F cur w1 hr h2 h4
    subst hv
    generalize txt (Op.bytes F) = V at *
    clear hr h
    go_enter Tryz.func33, Tryz.ntmps33
    go_wp2_with fail
    refine (unhide C).mono ?_
    rintro e w1 ⟨rfl, hb1⟩
    go_wp2_with fail
    refine (unhide C2 _ hb1).mono ?_
    rintro e w2 ⟨rfl, hb2⟩
    go_wp2
    go_ret
    exact ⟨rfl, hb1.trans (hb2.mono hb1.size)⟩
end Go.Proofs.YtghopihgnmnlcaaGreatDoor
namespace Go.Proofs.YtghopihgnmnlcaaGreatDoor
open Go.RowKit
theorem hi_byte {k : Nat} (hk : k < 65536) : (k : Int) / 256 = ((UInt8.ofNat (k / 256)).toNat : Int) := by
  have : (UInt8.ofNat (k / 256)).toNat = k / 256 := by simp; omega
  omega
theorem lo_byte (k : Nat) : (k : Int) % 256 = ((UInt8.ofNat k).toNat : Int) := by
  have : (UInt8.ofNat k).toNat = k % 256 := by simp
  omega
set_option maxHeartbeats 400000 in
theorem pairOf (k : Nat) (hk : k < 65536) (w : World) :
    Calls Tryz.prog 248 #[.int .i64 k] w fun e w' => e = .returned (.agg #[.int .u8 (UInt8.ofNat (k / 256)).toNat,   .int .u8 (UInt8.ofNat k).toNat]) ∧ w' = w.alloc (.cells #[.int .u8 (UInt8.ofNat (k / 256)).toNat, .int .u8 (UInt8.ofNat k).toNat] 302) := by
  rw [← hi_byte hk, ← lo_byte k]
  go_enter Tryz.func248, Tryz.ntmps248
  go_wp2
  refine bodyPost_ret (v := .agg #[.int .u8 ((k : Int) / 256), .int .u8 ((k : Int) % 256)]) (by simp [results, Tryz.results248, go_sem]) rfl ⟨rfl, rfl⟩
end Go.Proofs.YtghopihgnmnlcaaGreatDoor
