/- The law FnExactOptionsBytes walked: it returns true, and what lay in memory stands. -/
import Derived.Test.YtidhlfkealjifaeOptB
import Derived.Test.YtidhlfkealjifaeOptEq
import Derived.Test.YtidhlfkealjifaeOptArg
namespace Go.Proofs.Ytidhlfkealjifae
open Go.RowKit
set_option maxHeartbeats 2000000 in
theorem lawOpb (v : Value) (F : List Op.Opt) (w : World) (hn : F.length ≤ maxLen) (h : ArgO w v F) :
    Calls Try.prog 5 #[v] w fun e w' => e = .returned (.bool true) ∧ Below w.heap.size w w' := by
  obtain ⟨va, vc, rfl⟩ := h.1
  have C0 := hide (szOs _ F w hn h)
  have HA := hide h
  have CS := hide fun u v (hv : HoldsO v u F) => specBytesAll u F v hn hv
  have CI := hide fun u v (hv : HoldsO v u F) => implBytesAll u F v hn hv
  clear h
  generalize otV F = RT at *
  go_enter Try.func5, Try.ntmps5
  go_wp2_with fail
  refine (unhide C0).mono ?_
  rintro e w1 ⟨z, rfl, hz, hb1⟩
  have hs1 := hb1.size
  by_cases hz0 : z < 0
  · go_wp2
    go_ret
    exact ⟨rfl, hb1⟩
  · have hn2 : F.length ≤ 1048576 := hz.1.resolve_left hz0
    have CT := hide fun v (hv : Below w.heap.size w v) => toOs (.slice va F.length vc) F v hn2 ((unhide HA).below hv)
    have CE := hide fun u1 u2 v (h1 : HoldsO v u1 F) (h2 : HoldsO v u2 F) => eqS u1 u2 F v (by omega) h1 h2
    clear C0 HA hz
    go_wp2_with fail
    refine (unhide CT _ hb1).mono ?_
    rintro e w2 ⟨u2, rfl, hh2, _, hb2⟩
    have hB2 := hb1.trans (hb2.mono hs1)
    go_wp2_with fail
    refine (unhide CS _ _ hh2).mono ?_
    rintro e w3 ⟨rfl, hb3⟩
    have hB3 := hB2.trans (hb3.mono hB2.size)
    go_wp2_with fail
    refine (unhide CT _ hB3).mono ?_
    rintro e w4 ⟨u4, rfl, hh4, _, hb4⟩
    have hB4 := hB3.trans (hb4.mono hB3.size)
    go_wp2_with fail
    refine (unhide CI _ _ hh4).mono ?_
    rintro e w5 ⟨rfl, hb5⟩
    have hB5 := hB4.trans (hb5.mono hB4.size)
    have hh5 := hh4.below hb5 rfl
    have HH5 := hide hh5
    clear hh2 hh4 hh5 hb2 hb3 hb4 hb5
    go_wp2_with fail
    refine (unhide CT _ hB5).mono ?_
    rintro e w6 ⟨u6, rfl, hh6, _, hb6⟩
    have hB6 := hB5.trans (hb6.mono hB5.size)
    go_wp2_with fail
    refine (unhide CE _ _ _ ((unhide HH5).below hb6 rfl) hh6).mono ?_
    rintro e w7 ⟨rfl, hb7⟩
    go_wp2
    go_ret
    exact ⟨rfl, hB6.trans (hb7.mono hB6.size)⟩
end Go.Proofs.Ytidhlfkealjifae
