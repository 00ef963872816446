/- Is a Deframer right: the program's and the model's walks, and the law's own copy of a Deframer; what lay in memory stands. -/
import Derived.Test.YtkcghhkkepndnaaGreatDoorS00
import Derived.Test.YtkcghhkkepndnaaGreatDoorS01
import Derived.Test.YtkcghhkkepndnaaGreatDoorShW
namespace Go.Proofs.YtkcghhkkepndnaaGreatDoor
open Go.RowKit
def rightV (x:Int) (inn esc long:Bool) (t:ByteArray):Bool:=accOk x && (decide (t.size≤304) && (inn || (!esc && (!long && decide (t.size=0)))))
theorem empty_of_size {t:ByteArray} (h:t.size=0):t=⟨#[]⟩:=by
 obtain ⟨a⟩:=t
 congr
 exact Array.eq_empty_of_size_eq_zero h
theorem not_empty {t:ByteArray} (h:¬ t.size=0):t.toList.isEmpty=false:=by
 have hl:t.toList=t.data.toList:=ByteArray.toList_eq t
 rw [hl,List.isEmpty_eq_false_iff]
 intro e
 apply h
 have:t.data.toList.length=0:=by rw [e];rfl
 simpa using this
set_option maxHeartbeats 400000 in
theorem implRight (wide:Bool) (x:Int) (inn esc long:Bool) (t:ByteArray) (w:World) (ht:t.size≤maxLen) :
  Calls Tryz.prog 116 #[.agg #[.bool wide,.int .i64 x,.bool inn,.bool esc,.bool long,.string t]] w fun e w'=>e=.returned (.bool (rightV x inn esc long t))∧Below w.heap.size w w':=by
 unfold maxLen at ht
 have C:=hide (accmRight x)
 unfold rightV
 generalize accOk x=ok at *
 by_cases hs:t.size≤304
 ·have d1:¬ ((304:Int)<(t.size:Int)):=by omega
  by_cases h0:t.size=0
  ·obtain rfl:=empty_of_size h0
   cases ok<;>cases inn<;>cases esc<;>cases long
   all_goals
    go_enter Tryz.func116,Tryz.ntmps116
    go_wp2_with (first
     | (go_at_call 111;refine (uh C _).mono ?_;rintro e w1 ⟨rfl,rfl⟩))
    go_ret
    exact ⟨rfl,(Below.refl _ _).alloc (Nat.le_refl _) _⟩
  ·have d2:=not_empty h0
   rw [decide_eq_true hs,decide_eq_false h0]
   cases ok<;>cases inn<;>cases esc<;>cases long
   all_goals
    go_enter Tryz.func116,Tryz.ntmps116
    go_wp2_with (first
     | (go_at_call 111;refine (uh C _).mono ?_;rintro e w1 ⟨rfl,rfl⟩))
    go_ret
    exact ⟨rfl,(Below.refl _ _).alloc (Nat.le_refl _) _⟩
 ·have d1:(304:Int)<(t.size:Int):=by omega
  rw [decide_eq_false hs,Bool.false_and,Bool.and_false]
  cases ok
  all_goals
   go_enter Tryz.func116,Tryz.ntmps116
   go_wp2_with (first
    | (go_at_call 111;refine (uh C _).mono ?_;rintro e w1 ⟨rfl,rfl⟩))
   go_ret
   exact ⟨rfl,(Below.refl _ _).alloc (Nat.le_refl _) _⟩
set_option maxHeartbeats 400000 in
theorem specRight (wide:Bool) (x:Int) (inn esc long:Bool) (t:ByteArray) (w:World) (ht:t.size≤maxLen) :
  Calls Tryz.prog 102 #[.agg #[.bool wide,.int .i64 x,.bool inn,.bool esc,.bool long,.string t]] w fun e w'=>e=.returned (.bool (rightV x inn esc long t))∧Below w.heap.size w w':=by
 unfold maxLen at ht
 have C:=hide (specAccm x)
 unfold rightV
 generalize accOk x=ok at *
 by_cases hs:t.size≤304
 ·have d1:decide ((t.size:Int)≤304)=true:=decide_eq_true (by omega)
  by_cases h0:t.size=0
  ·obtain rfl:=empty_of_size h0
   cases ok<;>cases inn<;>cases esc<;>cases long
   all_goals
    go_enter Tryz.func102,Tryz.ntmps102
    go_wp2_with (first
     | (go_at_call 99;refine (uh C _).mono ?_;rintro e w1 ⟨rfl,rfl⟩))
    go_ret
    exact ⟨rfl,(Below.refl _ _).alloc (Nat.le_refl _) _⟩
  ·have d2:=not_empty h0
   rw [decide_eq_true hs,decide_eq_false h0]
   cases ok<;>cases inn<;>cases esc<;>cases long
   all_goals
    go_enter Tryz.func102,Tryz.ntmps102
    go_wp2_with (first
     | (go_at_call 99;refine (uh C _).mono ?_;rintro e w1 ⟨rfl,rfl⟩))
    go_ret
    exact ⟨rfl,(Below.refl _ _).alloc (Nat.le_refl _) _⟩
 ·have d1:decide ((t.size:Int)≤304)=false:=decide_eq_false (by omega)
  rw [decide_eq_false hs,Bool.false_and,Bool.and_false]
  cases ok
  all_goals
   go_enter Tryz.func102,Tryz.ntmps102
   go_wp2_with (first
    | (go_at_call 99;refine (uh C _).mono ?_;rintro e w1 ⟨rfl,rfl⟩))
   go_ret
   exact ⟨rfl,(Below.refl _ _).alloc (Nat.le_refl _) _⟩
end Go.Proofs.YtkcghhkkepndnaaGreatDoor
