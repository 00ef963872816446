/- A map of parts by their numbers, read as the list of its parts that stands by their numbers; no condition. -/
import Derived.Test.YtfkeokfmancgiaaBdM
import Derived.Maps.OwnSet
namespace Go.Proofs.Ytfkeokfmancgiaa
open Go.RowKit Go.ChangeMaps
/-- How a part reads. -/
def frR (v : Value) : Option (DataW Fg × List MemPlace) :=
  match v with
  | .agg ⟨[.int .i64 s, .bool b, .bool e, .string t]⟩ => some (.held ⟨s, b, e, t⟩, [])
  | _ => none
theorem frR_mk (f : Fg) : frR (fgV f) = some (.held f, []) := rfl
theorem frR_inv {v : Value} {f : Fg} {ps : List MemPlace} (h : frR v = some (.held f, ps)) : v = fgV f := by
  unfold frR at h
  split at h
  · cases h; rfl
  · cases h
def entP (f : Fg) : Lit × DataW Fg := (.int .i64 f.seq, .held f)
def mapD (F : List Fg) : DataW Fg := .map (F.map entP)
theorem same_i (a b : Int) : Lit.sameKey (.int .i64 a) (.int .i64 b) = decide (a = b) := by
  simp [Lit.sameKey]
theorem before_i (a b : Int) : Lit.before (.int .i64 a) (.int .i64 b) = decide (a < b) := by
  simp [Lit.before]
theorem not_i (f g : Fg) : notKey (.int .i64 f.seq) (entP g) = decide (g.seq ≠ f.seq) := by
  simp [notKey, entP, same_i]
/-- A part taken out. -/
def delP (F : List Fg) (n : Int) : List Fg := F.filter (fun g => decide (g.seq ≠ n))
theorem filter_ent (F : List Fg) (n : Int) : (F.map entP).filter (notKey (.int .i64 n)) = (delP F n).map entP := by
  unfold delP
  rw [List.filter_map]
  congr 1
  apply List.filter_congr
  intro g _
  simp [notKey, entP, same_i]
theorem delD (F : List Fg) (n : Int) : (mapD F).del (.int .i64 n) = mapD (delP F n) := by
  unfold mapD
  rw [DataW.del_eq]
  unfold delKey
  rw [filter_ent]
theorem delP_none {F : List Fg} {n : Int} (h : ∀ g ∈ F, g.seq ≠ n) : delP F n = F := by
  unfold delP
  rw [List.filter_eq_self]
  intro g hg
  simpa using h g hg
theorem insert_ent (F : List Fg) (f : Fg) (h : Ris F) (hn : ∀ g ∈ F, g.seq ≠ f.seq) : DataW.insert (entP f) (F.map entP) = (putP F f).map entP := by
  unfold Ris at h
  induction F with
  | nil => rfl
  | cons g F ih =>
    obtain ⟨h1, h2⟩ := List.pairwise_cons.1 h
    have hg := hn g List.mem_cons_self
    rw [List.map_cons]
    unfold DataW.insert putP
    have e : Lit.before (entP f).1 (entP g).1 = decide (f.seq < g.seq) := before_i _ _
    rw [e]
    by_cases hlt : g.seq < f.seq
    · rw [if_pos hlt, if_neg (by simp; omega), List.map_cons, ih h2 (fun x hx => hn x (List.mem_cons_of_mem _ hx))]
    · rw [if_neg hlt, if_neg hg, if_pos (by simp; omega)]
      rfl
theorem putP_del {F : List Fg} (f : Fg) (h : Ris F) : putP (delP F f.seq) f = putP F f := by
  unfold Ris at h
  induction F with
  | nil => rfl
  | cons g F ih =>
    obtain ⟨h1, h2⟩ := List.pairwise_cons.1 h
    unfold delP
    rw [List.filter_cons]
    by_cases e : g.seq = f.seq
    · rw [if_neg (by simp [e])]
      have hd : F.filter (fun g => decide (g.seq ≠ f.seq)) = F := delP_none (fun x hx => by have := h1 x hx; omega)
      rw [hd]
      have hb : putP F f = f :: F := by
        cases F with
        | nil => rfl
        | cons b F =>
          have := h1 b List.mem_cons_self
          unfold putP
          rw [if_neg (by omega), if_neg (by omega)]
      rw [hb]
      show f :: F = putP (g :: F) f
      unfold putP
      rw [if_neg (by omega), if_pos e]
    · rw [if_pos (by simpa using e)]
      show putP (g :: delP F f.seq) f = putP (g :: F) f
      unfold putP
      by_cases hlt : g.seq < f.seq
      · rw [if_pos hlt, if_pos hlt, ih h2]
      · rw [if_neg hlt, if_neg hlt, if_neg e, if_neg e]
        rw [delP_none (fun x hx => by have := h1 x hx; omega)]
theorem delP_ris {F : List Fg} (n : Int) (h : Ris F) : Ris (delP F n) := List.Pairwise.filter _ h
theorem putD (F : List Fg) (f : Fg) (h : Ris F) : (mapD F).put (.int .i64 f.seq) (.held f) = mapD (putP F f) := by
  unfold mapD
  rw [DataW.put_eq]
  unfold putKey
  rw [filter_ent, ← putP_del f h]
  congr 1
  exact insert_ent _ f (delP_ris _ h) (fun g hg => by simpa [delP] using (List.mem_filter.1 hg).2)
theorem sizeD (F : List Fg) : Maps.size (mapD F) = F.length := by
  unfold mapD
  rw [Maps.size_eq, List.length_map]
theorem hasD (F : List Fg) (n : Int) : Maps.has (mapD F) (.int .i64 n) = F.any (fun g => decide (g.seq = n)) := by
  unfold mapD
  rw [Maps.has_eq, List.any_map]
  congr 1
  funext g
  exact same_i _ _
end Go.Proofs.Ytfkeokfmancgiaa
