/- Is a numbered frame right: the program's walk and the model's; memory that was there stands. -/
import Derived.Test.YtjgnldkncoighaaNb
namespace Go.Proofs.Ytjgnldkncoighaa
open Go.RowKit
set_option maxHeartbeats 2000000 in
theorem iNbRight (f : Nb) (w : World) : Calls Try.prog 38 #[nbV f] w fun e w' => e = .returned (.bool (nbOk f)) ∧ Below w.heap.size w w' := by
  have C1 := hide fun v => iNumber f.nr v
  have C2 := hide fun v => iNumber f.ns v
  obtain ⟨R, hR⟩ : ∃ R, nbOk f = R := ⟨_, rfl⟩
  rw [hR]
  refine nb_ways f _ (fun a r => ?_) (fun a k b r => ?_) (fun a k b c r => ?_) (fun a k b c r => ?_) (fun a k b r => ?_) (fun a k b c r => ?_) (fun a k b c r => ?_) (fun a k b c r => ?_)
  all_goals
    rw [hR] at r
    subst r
    clear hR
    obtain ⟨kd, ns, nr, t⟩ := f
    dsimp only at *
  · rw [out7 a] at C1
    clear a C2
    go_enter Try.func38, Try.ntmps38
    go_wp2_with (first
      | (go_at_call 47; refine (unhide C1 _).mono ?_; rintro e w2 ⟨rfl, rfl⟩))
    go_ret
    exact ⟨rfl, (Below.refl _ _).alloc (Nat.le_refl _) _⟩
  · rw [in7 a] at C1
    rw [out7 b] at C2
    subst k
    clear a b
    go_enter Try.func38, Try.ntmps38
    go_wp2_with fail
    refine (unhide C1 _).mono ?_
    rintro e w2 ⟨rfl, rfl⟩
    go_wp2_with fail
    refine (unhide C2 _).mono ?_
    rintro e w2 ⟨rfl, rfl⟩
    go_wp2
    go_ret
    exact ⟨rfl, (Below.refl _ _).alloc (Nat.le_refl _) _⟩
  · rw [in7 a] at C1
    rw [in7 b] at C2
    subst k
    have f1 : decide ((t.size : Int) ≤ 200) = false := decide_eq_false (by omega)
    clear a b c
    go_enter Try.func38, Try.ntmps38
    go_wp2_with fail
    refine (unhide C1 _).mono ?_
    rintro e w2 ⟨rfl, rfl⟩
    go_wp2_with fail
    refine (unhide C2 _).mono ?_
    rintro e w2 ⟨rfl, rfl⟩
    go_wp2
    go_ret
    exact ⟨rfl, (Below.refl _ _).alloc (Nat.le_refl _) _⟩
  · rw [in7 a] at C1
    rw [in7 b] at C2
    subst k
    have f1 : decide ((t.size : Int) ≤ 200) = true := decide_eq_true (by omega)
    clear a b c
    go_enter Try.func38, Try.ntmps38
    go_wp2_with fail
    refine (unhide C1 _).mono ?_
    rintro e w2 ⟨rfl, rfl⟩
    go_wp2_with fail
    refine (unhide C2 _).mono ?_
    rintro e w2 ⟨rfl, rfl⟩
    go_wp2
    go_ret
    exact ⟨rfl, (Below.refl _ _).alloc (Nat.le_refl _) _⟩
  · rw [in7 a] at C1
    have f1 : (ns == 0) = false := beq_eq_false_iff_ne.2 b
    clear a C2
    rcases k with rfl | rfl
    all_goals
      go_enter Try.func38, Try.ntmps38
      go_wp2_with fail
      refine (unhide C1 _).mono ?_
      rintro e w2 ⟨rfl, rfl⟩
      go_wp2
      go_ret
      exact ⟨rfl, (Below.refl _ _).alloc (Nat.le_refl _) _⟩
  · rw [in7 a] at C1
    subst b
    have f1 := nonempty_of c
    clear a C2 c
    rcases k with rfl | rfl
    all_goals
      go_enter Try.func38, Try.ntmps38
      go_wp2_with fail
      refine (unhide C1 _).mono ?_
      rintro e w2 ⟨rfl, rfl⟩
      go_wp2
      go_ret
      exact ⟨rfl, (Below.refl _ _).alloc (Nat.le_refl _) _⟩
  · rw [in7 a] at C1
    rw [empty_of c]
    subst b
    clear a C2 c
    rcases k with rfl | rfl
    all_goals
      go_enter Try.func38, Try.ntmps38
      go_wp2_with fail
      refine (unhide C1 _).mono ?_
      rintro e w2 ⟨rfl, rfl⟩
      go_wp2
      go_ret
      exact ⟨rfl, (Below.refl _ _).alloc (Nat.le_refl _) _⟩
  · rw [in7 a] at C1
    have f1 : (kd == 1) = false := beq_eq_false_iff_ne.2 k
    have f2 : (kd == 2) = false := beq_eq_false_iff_ne.2 b
    have f3 : (kd == 3) = false := beq_eq_false_iff_ne.2 c
    clear a C2
    go_enter Try.func38, Try.ntmps38
    go_wp2_with fail
    refine (unhide C1 _).mono ?_
    rintro e w2 ⟨rfl, rfl⟩
    go_wp2
    go_ret
    exact ⟨rfl, (Below.refl _ _).alloc (Nat.le_refl _) _⟩
set_option maxHeartbeats 2000000 in
theorem sNbRight (f : Nb) (w : World) : Calls Try.prog 42 #[nbV f] w fun e w' => e = .returned (.bool (nbOk f)) ∧ Below w.heap.size w w' := by
  have C1 := hide fun v => sNumber f.nr v
  have C2 := hide fun v => sNumber f.ns v
  obtain ⟨R, hR⟩ : ∃ R, nbOk f = R := ⟨_, rfl⟩
  rw [hR]
  unfold nbOk at hR
  obtain ⟨kd, ns, nr, t⟩ := f
  dsimp only at *
  by_cases k : kd = 1
  · by_cases b : 0 ≤ ns ∧ ns ≤ 7
    · by_cases a : 0 ≤ nr ∧ nr ≤ 7
      · by_cases c : t.size ≤ 200
        · have hr : R = true := by rw [← hR]; exact decide_eq_true (by omega)
          subst hr
          clear hR
          rw [in7 a] at C1
          rw [in7 b] at C2
          subst k
          have f1 : decide ((t.size : Int) ≤ 200) = true := decide_eq_true (by omega)
          clear a b c
          go_enter Try.func42, Try.ntmps42
          go_wp2_with fail
          refine (unhide C2 _).mono ?_
          rintro e w2 ⟨rfl, rfl⟩
          go_wp2_with fail
          refine (unhide C1 _).mono ?_
          rintro e w2 ⟨rfl, rfl⟩
          go_wp2
          go_ret
          exact ⟨rfl, (Below.refl _ _).alloc (Nat.le_refl _) _⟩
        · have hr : R = false := by rw [← hR]; exact decide_eq_false (by omega)
          subst hr
          clear hR
          rw [in7 a] at C1
          rw [in7 b] at C2
          subst k
          have f1 : decide ((t.size : Int) ≤ 200) = false := decide_eq_false (by omega)
          clear a b c
          go_enter Try.func42, Try.ntmps42
          go_wp2_with fail
          refine (unhide C2 _).mono ?_
          rintro e w2 ⟨rfl, rfl⟩
          go_wp2_with fail
          refine (unhide C1 _).mono ?_
          rintro e w2 ⟨rfl, rfl⟩
          go_wp2
          go_ret
          exact ⟨rfl, (Below.refl _ _).alloc (Nat.le_refl _) _⟩
      · have hr : R = false := by rw [← hR]; exact decide_eq_false (by omega)
        subst hr
        clear hR
        rw [out7 a] at C1
        rw [in7 b] at C2
        subst k
        clear a b
        go_enter Try.func42, Try.ntmps42
        go_wp2_with fail
        refine (unhide C2 _).mono ?_
        rintro e w2 ⟨rfl, rfl⟩
        go_wp2_with fail
        refine (unhide C1 _).mono ?_
        rintro e w2 ⟨rfl, rfl⟩
        go_wp2
        go_ret
        exact ⟨rfl, (Below.refl _ _).alloc (Nat.le_refl _) _⟩
    · have hr : R = false := by rw [← hR]; exact decide_eq_false (by omega)
      subst hr
      clear hR
      rw [out7 b] at C2
      subst k
      clear b
      go_enter Try.func42, Try.ntmps42
      go_wp2_with fail
      refine (unhide C2 _).mono ?_
      rintro e w2 ⟨rfl, rfl⟩
      go_wp2
      go_ret
      exact ⟨rfl, (Below.refl _ _).alloc (Nat.le_refl _) _⟩
  · have f1 : (kd == 1) = false := beq_eq_false_iff_ne.2 k
    by_cases k2 : kd = 2 ∨ kd = 3
    · by_cases b : ns = 0
      · by_cases a : 0 ≤ nr ∧ nr ≤ 7
        · by_cases c : t.size = 0
          · have hr : R = true := by rw [← hR]; exact decide_eq_true (by omega)
            subst hr
            clear hR k f1
            rw [in7 a] at C1
            rw [empty_of c]
            subst b
            clear a c C2
            rcases k2 with rfl | rfl
            all_goals
              go_enter Try.func42, Try.ntmps42
              go_wp2_with fail
              refine (unhide C1 _).mono ?_
              rintro e w2 ⟨rfl, rfl⟩
              go_wp2
              go_ret
              exact ⟨rfl, (Below.refl _ _).alloc (Nat.le_refl _) _⟩
          · have hr : R = false := by rw [← hR]; exact decide_eq_false (by omega)
            subst hr
            clear hR k f1
            rw [in7 a] at C1
            have f4 := nonempty_of c
            subst b
            clear a c C2
            rcases k2 with rfl | rfl
            all_goals
              go_enter Try.func42, Try.ntmps42
              go_wp2_with fail
              refine (unhide C1 _).mono ?_
              rintro e w2 ⟨rfl, rfl⟩
              go_wp2
              go_ret
              exact ⟨rfl, (Below.refl _ _).alloc (Nat.le_refl _) _⟩
        · have hr : R = false := by rw [← hR]; exact decide_eq_false (by omega)
          subst hr
          clear hR k f1
          rw [out7 a] at C1
          subst b
          clear a C2
          rcases k2 with rfl | rfl
          all_goals
            go_enter Try.func42, Try.ntmps42
            go_wp2_with fail
            refine (unhide C1 _).mono ?_
            rintro e w2 ⟨rfl, rfl⟩
            go_wp2
            go_ret
            exact ⟨rfl, (Below.refl _ _).alloc (Nat.le_refl _) _⟩
      · have hr : R = false := by rw [← hR]; exact decide_eq_false (by omega)
        subst hr
        clear hR k f1
        have f4 : (ns == 0) = false := beq_eq_false_iff_ne.2 b
        clear C1 C2
        rcases k2 with rfl | rfl
        all_goals
          go_enter Try.func42, Try.ntmps42
          go_wp2
          go_ret
          exact ⟨rfl, (Below.refl _ _).alloc (Nat.le_refl _) _⟩
    · have hr : R = false := by rw [← hR]; exact decide_eq_false (by omega)
      subst hr
      clear hR
      have f2 : (kd == 2) = false := beq_eq_false_iff_ne.2 (by omega)
      have f3 : (kd == 3) = false := beq_eq_false_iff_ne.2 (by omega)
      clear C1 C2 k2
      go_enter Try.func42, Try.ntmps42
      go_wp2
      go_ret
      exact ⟨rfl, (Below.refl _ _).alloc (Nat.le_refl _) _⟩
end Go.Proofs.Ytjgnldkncoighaa
