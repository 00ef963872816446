/- The model's EndTick and EndDo: what is answered, in plain words; what lay in memory stands. The places of the table by the event: which actions are done; each of them in the model. -/
import Derived.Test.YtahpjlbaagkdoaaGreatDoorS27
import Derived.Test.YtahpjlbaagkdoaaGreatDoorS28
import Derived.Test.YtahpjlbaagkdoaaGreatDoorS01
import Derived.Test.YtahpjlbaagkdoaaGreatDoorS22
import Derived.Test.YtahpjlbaagkdoaaGreatDoorS26
import Derived.Test.YtahpjlbaagkdoaaGreatDoorShW
namespace Go.Proofs.YtahpjlbaagkdoaaGreatDoor
open Go.RowKit
theorem fit0 {e : En} {F1 F2 : List Op.Opt} {now : Int} (h : (enOk e F1 F2 && within 0 1000000000 now) = true) : Fit 0 (cx0 now) ⟨e, F1, F2, [], []⟩ ∧ (0 ≤ e.st ∧ e.st ≤ 9) ∧ -1 ≤ e.du := by
 simp only [enOk, within, Bool.and_eq_true, decide_eq_true_eq] at h
 obtain ⟨⟨h1, h2, h3, h4, h5, h6, h7, h8, h9, _⟩, h10⟩ := h
 have hdu : -1 ≤ e.du := by
  split at h9
  ·simp only [Bool.and_eq_true, decide_eq_true_eq] at h9; omega
  ·have : e.du = -1 := by simpa using h9
   omega
 exact ⟨⟨h1, h2, h5, h4, h6, h10, h7, h8, Nat.le_refl _, Nat.le_refl _, rfl, rfl, Nat.zero_le _, hdu⟩, h3, hdu⟩
theorem EvA.up {w W q : World} {X : Nat} {o : EO} {cs : Array Value} (h : EvA W o (.returned (.agg cs)) q) (hb : Below w.heap.size w W) (hX : W.heap[X]? = some (.cells eoZ 42)) (hXw : w.heap.size ≤ X) :
  cs.size = 33 ∧ cs.all (·.oneCell') = true ∧ q.heap[X]? = some (.cells eoZ 42) ∧ EvA w o (.returned (.agg cs)) (q.setRow X cs) := by
 obtain ⟨v1, v2, vs, vt, e, o1, o2, os, ot, ap, lo⟩ := h
 have e' : cs = eoC o.e v1 v2 vs vt o.cd := by injection e with e; injection e
 subst e'
 have hX' : q.heap[X]? = some (.cells eoZ 42) := (lo.block X (Array.getElem?_eq_some_iff.1 hX).1).trans hX
 obtain ⟨a1, p1, e1⟩ := own_form o1
 obtain ⟨a2, p2, e2⟩ := own_form o2
 obtain ⟨a3, p3, e3⟩ := own_form os
 obtain ⟨a4, p4, e4⟩ := own_form ot
 refine ⟨rfl, ?_, hX', v1, v2, vs, vt, rfl, own_mono (own_setRow o1 hX' (by decide)) hb.size, own_mono (own_setRow o2 hX' (by decide)) hb.size, own_mono (own_setRow os hX' (by decide)) hb.size, own_mono (own_setRow ot hX' (by decide)) hb.size, ap, ?_⟩
 ·rw [e1, e2, e3, e4]
  exact eoC_all _ _ _ _ _ _ _ _ _ _ _ _ _ _
 ·exact below_row (hb.trans (lo.mono hb.size)) hXw _
def acts11 : List ByteArray := [nIrc, nScr, nStr, nTls, nTlf, nTld, nZrc, nSta, nScj, nSer, nTlu]
def actsAt (i : Nat) : List ByteArray := if i = 6 then nSca :: acts11 else if i = 7 then nScn :: acts11 else acts11
theorem places16 : ((List.range 16).all fun i => (List.range 10).all fun k => (wordsOf (actAt i k)).all fun a => (actsAt i).any fun b => a.data.toList == b.data.toList) = true := by kernel_rfl
theorem acts11_in {c : Cx} {a : ByteArray} (h : a ∈ acts11) : ActI c a := by
 simp only [acts11, List.mem_cons, List.not_mem_nil, or_false] at h
 unfold ActI
 rcases h with h | h | h | h | h | h | h | h | h | h | h <;> simp [h]
theorem fsmAll {i : Nat} {t : ByteArray} (ht : evTexts[i]? = some t) {st : Int} (h0 : 0 ≤ st) (h9 : st ≤ 9) {c : Cx} (h6 : i = 6 → c.ac = 2) (h7 : i = 7 → c.ac ≠ 2) : (∀ a ∈ (fsmF st t).2.1, ActI c a) ∧ (fsmF st t).2.1.length ≤ 30 := by
 have hi : i < 16 := (List.getElem?_eq_some_iff.1 ht).1
 obtain ⟨k, rfl⟩ : ∃ k : Nat, st = (k : Int) := ⟨st.toNat, by omega⟩
 have hk : k < 10 := by omega
 obtain ⟨e, ⟨_, hl⟩, _⟩ := place_at ht hk
 rw [e]
 split
 ·exact ⟨fun a ha => by simp at ha, by simp⟩
 ·refine ⟨fun a ha => ?_, hl⟩
  have h := List.all_eq_true.1 (List.all_eq_true.1 (List.all_eq_true.1 places16 i (List.mem_range.2 hi)) k (List.mem_range.2 hk)) a ha
  obtain ⟨b, hb, e⟩ := List.any_eq_true.1 h
  have e2 : a = b := by
   obtain ⟨⟨l⟩⟩ := a
   obtain ⟨⟨m⟩⟩ := b
   have : l = m := by simpa using e
   rw [this]
  subst e2
  unfold actsAt at hb
  split at hb
  ·rename_i h'
   rcases List.mem_cons.1 hb with hb | hb
   ·exact Or.inr (Or.inr (Or.inr (Or.inr (Or.inr (Or.inr (Or.inr (Or.inr (Or.inr (Or.inr (Or.inr (Or.inl ⟨hb, h6 h'⟩)))))))))))
   ·exact acts11_in hb
  ·split at hb
   ·rename_i h'
    rcases List.mem_cons.1 hb with hb | hb
    ·exact Or.inr (Or.inr (Or.inr (Or.inr (Or.inr (Or.inr (Or.inr (Or.inr (Or.inr (Or.inr (Or.inr (Or.inr ⟨hb, h7 h'⟩)))))))))))
    ·exact acts11_in hb
   ·exact acts11_in hb
theorem actSAll (c : Cx) (a : ByteArray) (h : ActI c a) : ActOk 89 90 c a := by
 intro w0 w1 B s v1 v2 vs vt q n hL hf hn
 rcases h with rfl | rfl | rfl | rfl | rfl | rfl | rfl | rfl | rfl | rfl | rfl | ⟨rfl, _⟩ | ⟨rfl, _⟩
 ·exact sIrc hL
 ·exact sScr hL hf hn
 ·exact sStr hL hf hn
 ·exact sTls hL hf hn
 ·exact sTlf hL hf hn
 ·exact sTld hL hf hn
 ·exact sZrc hL
 ·exact sSta hL hf hn
 ·exact sScj hL hf hn
 ·exact sSer hL hf hn
 ·exact sTlu hL hf hn
 ·exact sSca hL hf hn
 ·exact sScn hL hf hn
end Go.Proofs.YtahpjlbaagkdoaaGreatDoor
