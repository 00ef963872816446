/- An End that was handed in, opened: its numbers, and its two rows of options; no condition. A Packet that was handed in, opened; no condition. -/
import Derived.Test.YtahpjlbaagkdoaaGreatDoorS07
import Derived.Test.YtahpjlbaagkdoaaGreatDoorS14
import Derived.ProofKit
import Derived.Lay
import Derived.MakeChecks
import Derived.Carry
import Derived.Deep.SlicePairs
import Derived.Test.YtahpjlbaagkdoaaGreatDoorProg
import Derived.Test.YtahpjlbaagkdoaaGreatDoorShW
namespace Go.Proofs.YtahpjlbaagkdoaaGreatDoor
open Go.ChangeShapes Go.WideShapes Go.ChangeAt Go.RowKit
theorem laidOutE : laidOutB Tryz.prog = true := by kernel_rfl
theorem cellsOE : Tryz.prog.cellsOf 144 = 2 := by kernel_rfl
theorem cellsIE : Tryz.prog.cellsOf 2 = 1 := by kernel_rfl
theorem cellsSE : Tryz.prog.cellsOf 9 = 1 := by kernel_rfl
theorem cellsBE : Tryz.prog.cellsOf 4 = 1 := by kernel_rfl
theorem cellsCE : Tryz.prog.cellsOf 47 = 6 := by kernel_rfl
theorem cellsLE : Tryz.prog.cellsOf 49 = 5 := by kernel_rfl
theorem cellsRE : Tryz.prog.cellsOf 48 = 1 := by kernel_rfl
theorem cellsEE : Tryz.prog.cellsOf 51 = 30 := by kernel_rfl
theorem fieldsCE : ∃ fs : Array Field, Tryz.prog.underlying 47 = some (.struct fs) ∧ fs.toList.map (fun f => (f.type, f.offset)) = [(2, 0), (2, 1), (2, 2), (4, 3), (4, 4), (4, 5)] :=
 ⟨_, Tryz.underlying47, rfl⟩
theorem fieldsLE : ∃ fs : Array Field, Tryz.prog.underlying 49 = some (.struct fs) ∧ fs.toList.map (fun f => (f.type, f.offset)) = [(2, 0), (2, 1), (4, 2), (4, 3), (4, 4)] :=
 ⟨_, Tryz.underlying49, rfl⟩
theorem fieldsEE : ∃ fs : Array Field, Tryz.prog.underlying 51 = some (.struct fs) ∧ fs.toList.map (fun f => (f.type, f.offset)) = [(47, 0), (47, 6), (2, 12), (2, 13), (2, 14), (2, 15), (2, 16), (48, 17), (48, 18), (4, 19), (49, 20), (49, 25)] :=
 ⟨_, Tryz.underlying51, rfl⟩
abbrev I64 (x : Int) : Prop := -9223372036854775808 ≤ x ∧ x ≤ 9223372036854775807
theorem field_at {H : Type} {enc : TypeId × Value → H} {W : World} {fuel : Nat} {t : TypeId} {cs : List Value} {x : DataW H × List MemPlace} {fs : Array Field} {L : List (TypeId × Nat)} (hfs : Tryz.prog.underlying t = some (.struct fs)) (hfl : fs.toList.map (fun f => (f.type, f.offset)) = L)
  (hf : DataW.trod enc Tryz.prog W 0 (fun _ => true) true fuel t cs = some x) : ∃ n, ∀ (i : Nat) (T : TypeId) (o : Nat), L[i]? = some (T, o) → ∃ x, DataW.trod enc Tryz.prog W 0 (fun _ => true) true n T ((cs.drop o).take (Tryz.prog.cellsOf T)) = some x := by
 obtain ⟨xs, n, _, _, hl, hlen, hfd⟩ := DataW.trod_struct hfs hf
 refine ⟨n, fun i T o hi => ?_⟩
 rw [← hfl, List.getElem?_map, Option.map_eq_some_iff] at hi
 obtain ⟨f, hf1, hf2⟩ := hi
 simp only [Prod.mk.injEq] at hf2
 obtain ⟨rfl, rfl⟩ := hf2
 have hf3 : fs[i]? = some f := by rw [← Array.getElem?_toList]; exact hf1
 have := hfd i f hf3
 have hi2 : i < fs.size := (Array.getElem?_eq_some_iff.1 hf3).1
 exact ⟨xs[i]'(by omega), by rw [← List.getElem?_eq_getElem (by omega)]; exact this⟩
theorem int_at {H : Type} {enc : TypeId × Value → H} {W : World} {n : Nat} {c : Value} {x : DataW H × List MemPlace} (h : DataW.trod enc Tryz.prog W 0 (fun _ => true) true n 2 [c] = some x) : ∃ k : Int, c = .int .i64 k ∧ I64 k := by
 obtain ⟨k, e, _, w⟩ := DataW.trod_int Tryz.underlying2 h
 simp at e
 exact ⟨k, e, by simpa [Lit.wf, IntKind.min, IntKind.max, IntKind.signed, IntKind.bits] using w⟩
theorem bool_at {H : Type} {enc : TypeId × Value → H} {W : World} {n : Nat} {c : Value} {x : DataW H × List MemPlace} (h : DataW.trod enc Tryz.prog W 0 (fun _ => true) true n 4 [c] = some x) : ∃ b : Bool, c = .bool b := by
 obtain ⟨b, e, _⟩ := DataW.trod_bool Tryz.underlying4 h
 simp at e
 exact ⟨b, e⟩
theorem cfg_at {H : Type} {enc : TypeId × Value → H} {W : World} {n : Nat} {c0 c1 c2 c3 c4 c5 : Value} {x : DataW H × List MemPlace} (h : DataW.trod enc Tryz.prog W 0 (fun _ => true) true n 47 [c0, c1, c2, c3, c4, c5] = some x) :
  ∃ (m a g : Int) (p c d : Bool), c0 = .int .i64 m ∧ c1 = .int .i64 a ∧ c2 = .int .i64 g ∧ c3 = .bool p ∧ c4 = .bool c ∧ c5 = .bool d ∧ I64 m ∧ I64 a ∧ I64 g := by
 obtain ⟨fs, hfs, hfl⟩ := fieldsCE
 obtain ⟨n, key⟩ := field_at hfs hfl h
 obtain ⟨_, k0⟩ := key 0 _ _ rfl
 obtain ⟨_, k1⟩ := key 1 _ _ rfl
 obtain ⟨_, k2⟩ := key 2 _ _ rfl
 obtain ⟨_, k3⟩ := key 3 _ _ rfl
 obtain ⟨_, k4⟩ := key 4 _ _ rfl
 obtain ⟨_, k5⟩ := key 5 _ _ rfl
 rw [cellsIE] at k0 k1 k2
 rw [cellsBE] at k3 k4 k5
 obtain ⟨m, e0, w0⟩ := int_at k0
 obtain ⟨a, e1, w1⟩ := int_at k1
 obtain ⟨g, e2, w2⟩ := int_at k2
 obtain ⟨p, e3⟩ := bool_at k3
 obtain ⟨c, e4⟩ := bool_at k4
 obtain ⟨d, e5⟩ := bool_at k5
 exact ⟨m, a, g, p, c, d, e0, e1, e2, e3, e4, e5, w0, w1, w2⟩
theorem line_at {H : Type} {enc : TypeId × Value → H} {W : World} {n : Nat} {c0 c1 c2 c3 c4 : Value} {x : DataW H × List MemPlace} (h : DataW.trod enc Tryz.prog W 0 (fun _ => true) true n 49 [c0, c1, c2, c3, c4] = some x) :
  ∃ (m a : Int) (p c d : Bool), c0 = .int .i64 m ∧ c1 = .int .i64 a ∧ c2 = .bool p ∧ c3 = .bool c ∧ c4 = .bool d ∧ I64 m ∧ I64 a := by
 obtain ⟨fs, hfs, hfl⟩ := fieldsLE
 obtain ⟨n, key⟩ := field_at hfs hfl h
 obtain ⟨_, k0⟩ := key 0 _ _ rfl
 obtain ⟨_, k1⟩ := key 1 _ _ rfl
 obtain ⟨_, k2⟩ := key 2 _ _ rfl
 obtain ⟨_, k3⟩ := key 3 _ _ rfl
 obtain ⟨_, k4⟩ := key 4 _ _ rfl
 rw [cellsIE] at k0 k1
 rw [cellsBE] at k2 k3 k4
 obtain ⟨m, e0, w0⟩ := int_at k0
 obtain ⟨a, e1, w1⟩ := int_at k1
 obtain ⟨p, e2⟩ := bool_at k2
 obtain ⟨c, e3⟩ := bool_at k3
 obtain ⟨d, e4⟩ := bool_at k4
 exact ⟨m, a, p, c, d, e0, e1, e2, e3, e4, w0, w1⟩
theorem opts_at {H : Type} {enc : TypeId × Value → H} {W : World} {fuel : Nat} {c : Value} {x : DataW H × List MemPlace}
  (hf : DataW.trod enc Tryz.prog W 0 (fun _ => true) true fuel 48 [c] = some x) : ∃ (a : Option Addr) (cap : Nat) (F : List Op.Opt), c = .slice a F.length cap ∧ ArgO W (.slice a F.length cap) F ∧ F.length ≤ maxLen := by
 rcases Go.Deep.open_slice_pairs Tryz.underlying48 Tryz.underlying144 cellsOE rfl rfl cellsIE cellsSE hf with ⟨hcs, hx⟩ | ⟨a', len', cap', m, n, V0, V1, D0, D1, P0, P1, hcs, _, hl, hm, hmm, hx, hcell⟩
 ·simp at hcs
  subst hcs
  exact ⟨none, 0, [], rfl, ⟨⟨_, _, rfl⟩, fun i hi => absurd hi (by simp)⟩, Nat.zero_le _⟩
 ·simp at hcs
  subst hcs
  simp only [if_true] at hmm
  subst hmm
  have each : ∀ i, ∃ q : Op.Opt, i < m → W.cell? (a'.add (i * 2)) = some (.int .i64 q.kind) ∧ W.cell? (a'.add (i * 2 + 1)) = some (.string q.data) ∧ q.data.size ≤ maxLen := by
   intro i
   by_cases hi : i < m
   ·obtain ⟨h1, h2, h3, h4⟩ := hcell i hi
    obtain ⟨k, e1, _, _⟩ := DataW.trod_int Tryz.underlying2 h3
    obtain ⟨s, e2, _, hs⟩ := DataW.trod_string Tryz.underlying9 h4
    simp only [List.cons.injEq, and_true] at e1 e2
    rw [e1] at h1
    rw [e2] at h2
    exact ⟨⟨k, s⟩, fun _ => ⟨h1, h2, hs⟩⟩
   ·exact ⟨⟨0, ⟨#[]⟩⟩, fun h => absurd h hi⟩
  let q : Nat → Op.Opt := fun i => Classical.choose (each i)
  have hq : ∀ i, i < m → W.cell? (a'.add (i * 2)) = some (.int .i64 (q i).kind) ∧ W.cell? (a'.add (i * 2 + 1)) = some (.string (q i).data) ∧ (q i).data.size ≤ maxLen := fun i => Classical.choose_spec (each i)
  have hlen : ((List.range len').map q).length = len' := by simp
  refine ⟨some a', m, (List.range len').map q, by rw [hlen], ?_, by simp; omega⟩
  refine ⟨⟨some a', m, rfl⟩, fun i hi => ?_⟩
  have hi' : i < len' := by simpa using hi
  obtain ⟨b, o, sp⟩ := a'
  have hsp : sp = none := by
   cases sp with
   | none => rfl
   | some x =>
    have hc0 := (hq 0 (by omega)).1
    unfold World.cell? Addr.add at hc0
    split at hc0 <;> simp at hc0
  subst hsp
  have hadd : ∀ k, (⟨b, o, none⟩ : Addr).add k = ⟨b, o + k, none⟩ := fun k => by unfold Addr.add; split <;> simp_all
  have hqi := hq i (by omega)
  rw [hadd, hadd] at hqi
  have hg : ((List.range len').map q)[i] = q i := by simp
  rw [hg]
  exact ⟨b, o, m, by simp, World.block_lt_of_cell? W _ hqi.1, hqi.1, hqi.2.1, hqi.2.2⟩
theorem array30 {α : Type} {cs : Array α} (h : cs.size = 30) : ∃ c0 c1 c2 c3 c4 c5 c6 c7 c8 c9 c10 c11 c12 c13 c14 c15 c16 c17 c18 c19 c20 c21 c22 c23 c24 c25 c26 c27 c28 c29, cs = #[c0, c1, c2, c3, c4, c5, c6, c7, c8, c9, c10, c11, c12, c13, c14, c15, c16, c17, c18, c19, c20, c21, c22, c23, c24, c25, c26, c27, c28, c29] := by
 obtain ⟨l⟩ := cs
 match l, h with
 | [c0, c1, c2, c3, c4, c5, c6, c7, c8, c9, c10, c11, c12, c13, c14, c15, c16, c17, c18, c19, c20, c21, c22, c23, c24, c25, c26, c27, c28, c29], _ => exact ⟨c0, c1, c2, c3, c4, c5, c6, c7, c8, c9, c10, c11, c12, c13, c14, c15, c16, c17, c18, c19, c20, c21, c22, c23, c24, c25, c26, c27, c28, c29, rfl⟩
structure En64 (e : En) : Prop where
 m1 : I64 e.m1
 a1 : I64 e.a1
 g1 : I64 e.g1
 m2 : I64 e.m2
 a2 : I64 e.a2
 g2 : I64 e.g2
 st : I64 e.st
 tr : I64 e.tr
 du : I64 e.du
 id : I64 e.id
 fl : I64 e.fl
 i1 : I64 e.i1
 i2 : I64 e.i2
 o1 : I64 e.o1
 o2 : I64 e.o2
set_option maxRecDepth 100000 in
theorem open_end {H : Type} {enc : TypeId × Value → H} {W : World} {base : Nat} {v : Value} {d : DataW H} {p : List MemPlace} (hv : Value.okWide Tryz.prog W .any base 51 v)
  (h : DataW.Trod enc Tryz.prog W 0 (fun _ => true) true 51 v d p) :
  ∃ (e : En) (x1 x2 : Option Addr) (y1 y2 : Nat) (F1 F2 : List Op.Opt), v = .agg (enC e (.slice x1 F1.length y1) (.slice x2 F2.length y2)) ∧ ArgO W (.slice x1 F1.length y1) F1 ∧ ArgO W (.slice x2 F2.length y2) F2 ∧ F1.length ≤ maxLen ∧ F2.length ≤ maxLen ∧ En64 e := by
 obtain ⟨fs, hfs, hfl⟩ := fieldsEE
 obtain ⟨cs, rfl, hsz⟩ := okWide_struct hfs hv
 obtain ⟨c0, c1, c2, c3, c4, c5, c6, c7, c8, c9, c10, c11, c12, c13, c14, c15, c16, c17, c18, c19, c20, c21, c22, c23, c24, c25, c26, c27, c28, c29, rfl⟩ := array30 (hsz.trans cellsEE)
 obtain ⟨fuel, hf⟩ := h
 obtain ⟨n, key⟩ := field_at hfs hfl hf
 obtain ⟨_, k0⟩ := key 0 _ _ rfl
 obtain ⟨_, k1⟩ := key 1 _ _ rfl
 obtain ⟨_, k2⟩ := key 2 _ _ rfl
 obtain ⟨_, k3⟩ := key 3 _ _ rfl
 obtain ⟨_, k4⟩ := key 4 _ _ rfl
 obtain ⟨_, k5⟩ := key 5 _ _ rfl
 obtain ⟨_, k6⟩ := key 6 _ _ rfl
 obtain ⟨_, k7⟩ := key 7 _ _ rfl
 obtain ⟨_, k8⟩ := key 8 _ _ rfl
 obtain ⟨_, k9⟩ := key 9 _ _ rfl
 obtain ⟨_, k10⟩ := key 10 _ _ rfl
 obtain ⟨_, k11⟩ := key 11 _ _ rfl
 rw [cellsCE] at k0 k1
 rw [cellsIE] at k2 k3 k4 k5 k6
 rw [cellsRE] at k7 k8
 rw [cellsBE] at k9
 rw [cellsLE] at k10 k11
 obtain ⟨m1, a1, g1, p1, q1, d1, e0, e1, e2, e3, e4, e5, w0, w1, w2⟩ := cfg_at k0
 obtain ⟨m2, a2, g2, p2, q2, d2, e6, e7, e8, e9, e10, e11, w6, w7, w8⟩ := cfg_at k1
 obtain ⟨st, e12, w12⟩ := int_at k2
 obtain ⟨tr, e13, w13⟩ := int_at k3
 obtain ⟨du, e14, w14⟩ := int_at k4
 obtain ⟨id, e15, w15⟩ := int_at k5
 obtain ⟨fl, e16, w16⟩ := int_at k6
 obtain ⟨x1, y1, F1, e17, r1, s1⟩ := opts_at k7
 obtain ⟨x2, y2, F2, e18, r2, s2⟩ := opts_at k8
 obtain ⟨up, e19⟩ := bool_at k9
 obtain ⟨i1, i2, i3, i4, i5, e20, e21, e22, e23, e24, w20, w21⟩ := line_at k10
 obtain ⟨o1, o2, o3, o4, o5, e25, e26, e27, e28, e29, w25, w26⟩ := line_at k11
 refine ⟨⟨m1, a1, g1, p1, q1, d1, m2, a2, g2, p2, q2, d2, st, tr, du, id, fl, up, i1, i2, i3, i4, i5, o1, o2, o3, o4, o5⟩, x1, x2, y1, y2, F1, F2, ?_, r1, r2, s1, s2, ⟨w0, w1, w2, w6, w7, w8, w12, w13, w14, w15, w16, w20, w21, w25, w26⟩⟩
 rw [e0, e1, e2, e3, e4, e5, e6, e7, e8, e9, e10, e11, e12, e13, e14, e15, e16, e17, e18, e19, e20, e21, e22, e23, e24, e25, e26, e27, e28, e29]
end Go.Proofs.YtahpjlbaagkdoaaGreatDoor
namespace Go.Proofs.YtahpjlbaagkdoaaGreatDoor
open Go.ChangeShapes Go.WideShapes Go.ChangeAt Go.RowKit
theorem array3 {α : Type} {cs : Array α} (h : cs.size = 3) : ∃ c0 c1 c2, cs = #[c0, c1, c2] := by
 obtain ⟨l⟩ := cs
 match l, h with
 | [c0, c1, c2], _ => exact ⟨c0, c1, c2, rfl⟩
theorem cellsPk : Tryz.prog.cellsOf 52 = 3 := by kernel_rfl
theorem cellsInt : Tryz.prog.cellsOf 2 = 1 := by kernel_rfl
theorem cellsStr : Tryz.prog.cellsOf 9 = 1 := by kernel_rfl
theorem fieldsPk : ∃ fs : Array Field, Tryz.prog.underlying 52 = some (.struct fs) ∧ fs.toList.map (fun f => (f.type, f.offset)) = [(2, 0), (2, 1), (9, 2)] :=
 ⟨_, Tryz.underlying52, rfl⟩
set_option maxRecDepth 100000 in
theorem open_pk {H : Type} {enc : TypeId × Value → H} {W : World} {base : Nat} {v : Value} {d : DataW H} {p : List MemPlace} (hv : Value.okWide Tryz.prog W .any base 52 v)
  (h : DataW.Trod enc Tryz.prog W 0 (fun _ => true) true 52 v d p) :
  ∃ (x y : Int) (t : ByteArray), v = .agg #[.int .i64 x, .int .i64 y, .string t] ∧ t.size ≤ maxLen := by
 obtain ⟨fs, hfs, hfl⟩ := fieldsPk
 obtain ⟨cs, rfl, hsz⟩ := okWide_struct hfs hv
 obtain ⟨c0, c1, c2, rfl⟩ := array3 (hsz.trans cellsPk)
 obtain ⟨fuel, hf⟩ := h
 obtain ⟨xs, n, _, _, hl, hlen, hfd⟩ := DataW.trod_struct hfs hf
 have key : ∀ (i : Nat) (T : TypeId) (o : Nat), (fs.toList.map fun f => (f.type, f.offset))[i]? = some (T, o) → ∃ x, DataW.trod enc Tryz.prog W 0 (fun _ => true) true n T (([c0, c1, c2].drop o).take (Tryz.prog.cellsOf T)) = some x := by
  intro i T o hi
  rw [List.getElem?_map, Option.map_eq_some_iff] at hi
  obtain ⟨f, hf1, hf2⟩ := hi
  simp only [Prod.mk.injEq] at hf2
  obtain ⟨rfl, rfl⟩ := hf2
  have hf3 : fs[i]? = some f := by rw [← Array.getElem?_toList]; exact hf1
  have := hfd i f hf3
  have hi2 : i < fs.size := (Array.getElem?_eq_some_iff.1 hf3).1
  exact ⟨xs[i]'(by omega), by rw [← List.getElem?_eq_getElem (by omega)]; exact this⟩
 rw [hfl] at key
 obtain ⟨x0, k0⟩ := key 0 _ _ rfl
 obtain ⟨x1, k1⟩ := key 1 _ _ rfl
 obtain ⟨x2, k2⟩ := key 2 _ _ rfl
 obtain ⟨n0, e0, _, _⟩ := DataW.trod_int Tryz.underlying2 k0
 obtain ⟨n1, e1, _, _⟩ := DataW.trod_int Tryz.underlying2 k1
 obtain ⟨s2, e2, _, w2⟩ := DataW.trod_string Tryz.underlying9 k2
 simp [cellsInt] at e0 e1
 simp [cellsStr] at e2
 subst e0 e1 e2
 exact ⟨n0, n1, s2, rfl, w2⟩
end Go.Proofs.YtahpjlbaagkdoaaGreatDoor
