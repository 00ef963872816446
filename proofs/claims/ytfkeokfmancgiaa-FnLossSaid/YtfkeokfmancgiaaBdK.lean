/- The numbers of the map's parts, sorted; memory that was there stands. -/
import Derived.Test.YtfkeokfmancgiaaBdF
import Derived.Test.YtfkeokfmancgiaaSrt
namespace Go.Proofs.Ytfkeokfmancgiaa
open Go.RowKit Go.Maps Go.Sort Go.Shelf
/-- slices.Sort's two contracts at this dump. -/
theorem sortsB (m : Nat) : AnyZI.SortsIn Try.prog Try.sortedA_ren Fence.wide m :=
  ⟨fun blk off cap ss W hH hblk hsz => callsIn_wide.2 (AnyM.slices_Sort_int Try.sortA blk off cap ss W hH hblk hsz),
   fun p cap W => callsIn_wide.2 (AnyM.slices_Sort_int_none Try.sortA p cap W)⟩
theorem keysD (F : List Fg) : intKeys (mapD F) = F.map (·.seq) := by
  show List.map _ (List.map entP F) = _
  rw [List.map_map]
  rfl
theorem sort_eq (ss : List Int) (F : List Fg) (h : ss.Perm (F.map (·.seq))) (hr : Ris F) : ss.mergeSort (fun x y => decide (x ≤ y)) = F.map (·.seq) := by
  refine List.Perm.eq_of_pairwise (le := fun x y : Int => x ≤ y) (fun a b _ _ h1 h2 => Int.le_antisymm h1 h2) ?_ ?_ ((List.mergeSort_perm _ _).trans h)
  · have := List.pairwise_mergeSort (le := fun x y : Int => decide (x ≤ y)) (fun a b c h1 h2 => by simp at *; omega) (fun a b => by simp; omega) ss
    exact this.imp (by simp)
  · rw [List.pairwise_map]
    exact hr.imp (fun h => by omega)
set_option maxHeartbeats 1000000 in
theorem iSeqsB (w q : World) (B M k : Nat) (lv gv : Value) (F : List Fg) (lost : Int) (hB : Bw w B M k lv gv F lost q) (hlen : F.length ≤ 1000) :
    Calls Try.prog 62 #[.pointer (some ⟨B, 0, none⟩)] q fun e w' => ∃ v, e = .returned v ∧ w'.ownsRow q.heap.size 2 1 v F.length ((F.map (·.seq)).map encZ) ∧ Below q.heap.size q w' := by
  refine (callsIn_wide (n := 6)).1 ?_
  have hown := hB.m
  have hbl := hown.lt
  have hsz : Maps.size (mapD F) = F.length := sizeD F
  have k1 := (row4g hB.c).2.1
  have hseq : SeqGives Fence.wide 2 Try.prog 77 #[.pointer (some ⟨q.heap.size, 0, none⟩)] encZ (fun ss => ss.Perm (intKeys (mapD F))) (Maps.size (mapD F)) (q.alloc (.cells #[.map (some M)] 67)) :=
    AnyZI.keys_gives (ρ := Try.keysA_ren) { Try.keysA with } Fence.wide _ trivial rfl (by omega) q.heap.size M k (mapD F) _ (by simp) (by simp) (by
      obtain ⟨es, clock, hb, Ft, hs, hD⟩ := hown
      exact ⟨es, clock, (Below.heap_alloc _ _ M hbl).trans hb, Ft, hs, hD⟩)
  have cK : ∀ mb W, CallsIn Fence.wide 5 Try.prog 72 #[.map mb] W fun e w' => e = .returned (.func (.func 77) #[] #[.pointer (some ⟨W.heap.size, 0, none⟩)]) ∧ w' = W.alloc (.cells #[.map mb] 67) := fun mb W => AnyZI.keys_in Try.keysA Fence.wide 5 trivial rfl mb W
  have cS := AnyZI.sorted_in Try.sortedA Fence.wide 5 trivial trivial trivial trivial rfl (by omega) (sortsB _) (enters_of Try.func76 (by kernel_rfl) rfl) 77 #[.pointer (some ⟨q.heap.size, 0, none⟩)] trivial (enters_of Try.func77 (by kernel_rfl) rfl) _ _ (by rw [hsz]; unfold maxLen; omega) (by rw [hsz]; omega) _ hseq
  change CallsIn _ _ Try.prog 71 _ _ _ at cS
  have hfK : Fence.wide.fn 72 := trivial
  have hfS : Fence.wide.fn 71 := trivial
  have HR := hide hB.r
  refine callsIn_of_wp Try.func62 rfl trivial ?_ rfl
  simp only [Try.ntmps62, List.size_toArray, List.length_cons, List.length_nil, Nat.reduceAdd, Nat.reduceSub, Array.replicate_succ, Array.replicate_zero, List.push_toArray, List.append_toArray, List.nil_append, List.cons_append]
  gi_wp2_with (first
    | (gi_at_call 72; refine (cK _ _).mono ?_; rintro e w' ⟨rfl, rfl⟩)
    | (gi_at_call 71; refine cS.mono ?_; rintro e w' ⟨v, ss, rfl, hS, hrow, hnil, hb⟩))
  go_ret
  rw [keysD] at hS
  have hl : ss.length = F.length := by rw [hS.length_eq, List.length_map]
  rw [sort_eq ss F hS (unhide HR), hl] at hrow
  exact ⟨v, rfl, ownsRow_base_a hrow (by simp), ((Below.refl _ q).alloc (Nat.le_refl _) _).trans (hb.mono (by simp))⟩
end Go.Proofs.Ytfkeokfmancgiaa
