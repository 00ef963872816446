/- What a flag finds, the model's (l02End), but for a text that is good: a thing found and whether; what lay in memory stands. (The good text's case is still to be walked: region 13 stands still at its slice.) What a flag finds, the model's (l02End), of a good text: the text without its tail; what lay in memory stands. LapbRight, the model's: is an end of a numbered line right; what lay in memory stands. -/
import Derived.Test.YtkcghhkkepndnaaGreatDoorS14
import Derived.Test.YtkcghhkkepndnaaGreatDoorS13
import Derived.Test.YtkcghhkkepndnaaGreatDoorS05
import Derived.Deep.DeepCutAuto
import Derived.Test.YtkcghhkkepndnaaGreatDoorS03
import Derived.Test.YtkcghhkkepndnaaGreatDoorShW
namespace Go.Proofs.YtkcghhkkepndnaaGreatDoor
open Go.RowKit
def endV:List Hd.Fd→Value
 | []=>.tuple #[.agg #[.int .i64 0,.string ⟨#[]⟩],.bool false]
 | f :: _=>.tuple #[.agg #[.int .i64 f.kind,.string (txt f.text)],.bool true]
theorem specGoodB (u:ByteArray) (wide:Bool) (w:World) (hu:u.size≤8000) :
  Calls Tryz.prog 128 #[.string u,.bool wide] w fun e w'=>e=.returned (.bool (goodV u wide))∧Below w.heap.size w w':=by
 by_cases h:tailN wide≤u.size
 ·rw [show goodV u wide=_ from if_pos ⟨hu,h⟩,Bool.beq_comm]
  exact specGood_at u wide w (u.size - tailN wide) (by omega) hu
 ·rw [show goodV u wide=false from if_neg fun k=>h k.2]
  exact specGood_no u wide w (by omega)
theorem row2' {w:World} {B:Nat} {x0 x1:Value} {T:TypeId} (h:w.heap[B]?=some (.cells #[x0,x1] T)) :
  w.cell? ⟨B,0,none⟩=some x0∧w.cell? ⟨B,1,none⟩=some x1∧w.frozen? ⟨B,0,none⟩=false∧w.frozen? ⟨B,1,none⟩=false :=
 ⟨by rw [cell_of_row _ _ _ _ _ _ h];rfl,by rw [cell_of_row _ _ _ _ _ _ h];rfl,frz h _,frz h _⟩
theorem row6' {w:World} {B:Nat} {x0 x1 x2 x3 x4 x5:Value} {T:TypeId} (h:w.heap[B]?=some (.cells #[x0,x1,x2,x3,x4,x5] T)) :
  w.cell? ⟨B,0,none⟩=some x0∧w.cell? ⟨B,1,none⟩=some x1∧w.cell? ⟨B,2,none⟩=some x2∧w.cell? ⟨B,3,none⟩=some x3∧w.cell? ⟨B,4,none⟩=some x4∧w.cell? ⟨B,5,none⟩=some x5:=by
 refine ⟨?_,?_,?_,?_,?_,?_⟩
 all_goals
  rw [cell_of_row _ _ _ _ _ _ h]
  rfl
theorem infoF:(Tryz.prog.info? 113).map (·.size)=some 2:=by kernel_rfl
set_option maxHeartbeats 2000000 in
theorem specEnd_but (wide:Bool) (x:Int) (inn esc long:Bool) (u:ByteArray) (w:World) (hu:u.size≤304) (hng:inn=true→esc=false→long=false→tailN wide<u.size→goodV u wide=false) :
  Calls Tryz.prog 103 #[.agg #[.bool wide,.int .i64 x,.bool inn,.bool esc,.bool long,.string u]] w fun e w'=>e=.returned (endV (Hd.endOf (gd wide) ⟨inn,esc,long,u.data.toList⟩))∧Below w.heap.size w w':=by
 have hlen:u.data.toList.length=u.size:=by rw [Array.length_toList];rfl
 have HM:=hide (many' wide)
 have HG:=hide fun v=>specGoodB u wide v (by omega)
 have hk4:=tailN_le wide
 cases inn
 ·have hE:Hd.endOf (gd wide) ⟨false,esc,long,u.data.toList⟩=[]:=by simp [Hd.endOf]
  rw [hE]
  go_enter Tryz.func103,Tryz.ntmps103
  go_wp2
  refine bodyPost_ret (v:=endV []) (by simp [results,Tryz.results103,go_sem,endV]) rfl ⟨rfl,?_⟩
  exact ((Below.refl _ _).alloc (Nat.le_refl _) _).alloc (by simp) _
 ·cases esc
  ·by_cases h0:u.size=0
   ·obtain rfl:=empty_of_size h0
    cases long
    ·have hE:Hd.endOf (gd wide) ⟨true,false,false,(ByteArray.mk #[]).data.toList⟩=[]:=by simp [Hd.endOf]
     rw [hE]
     go_enter Tryz.func103,Tryz.ntmps103
     go_wp2
     refine bodyPost_ret (v:=endV []) (by simp [results,Tryz.results103,go_sem,endV]) rfl ⟨rfl,?_⟩
     exact ((Below.refl _ _).alloc (Nat.le_refl _) _).alloc (by simp) _
    ·have hE:Hd.endOf (gd wide) ⟨true,false,true,(ByteArray.mk #[]).data.toList⟩=[⟨5,[]⟩]:=by simp [Hd.endOf]
     rw [hE]
     go_enter Tryz.func103,Tryz.ntmps103
     go_wp2
     refine bodyPost_ret (v:=endV [⟨5,[]⟩]) (by simp [results,Tryz.results103,go_sem,endV,txt]) rfl ⟨rfl,?_⟩
     exact ((Below.refl _ _).alloc (Nat.le_refl _) _).alloc (by simp) _
   ·have d2:=not_empty h0
    have hnn:¬ u.data.toList=[]:=fun e=>h0 (by rw [← hlen,e];rfl)
    cases long
    ·by_cases hc:u.size≤tailN wide
     ·have hE:Hd.endOf (gd wide) ⟨true,false,false,u.data.toList⟩=[⟨3,[]⟩]:=by
       simp only [Hd.endOf]
       rw [if_neg (by simp),if_neg (by simp),if_neg (by simp [hnn]),if_neg (by simp),if_pos (show u.data.toList.length≤(gd wide).k by rw [hlen];exact hc)]
      rw [hE]
      generalize tailN wide=k at *
      have d3:(u.size:Int)≤(k:Int):=by omega
      have d4:decide ((u.size:Int)≤(k:Int))=true:=decide_eq_true d3
      clear hE hnn hlen
      go_enter Tryz.func103,Tryz.ntmps103
      go_wp2_with fail
      go_quiet (first
       | (go_at_call 127;refine Calls.quiet_of_same (uh HM _)))
      go_wp2
      have hO1:(((w.alloc (.cells #[.bool wide,.int .i64 x,.bool true,.bool false,.bool false,.string u] 59)).alloc (.cells #[.int .i64 0,.string ⟨#[]⟩] 113)).drewN nq).heap[w.heap.size+1]?=some (.cells #[.int .i64 0,.string ⟨#[]⟩] 113):=by
       have h:=heap_alloc_last (w.alloc (.cells #[.bool wide,.int .i64 x,.bool true,.bool false,.bool false,.string u] 59)) (.cells #[.int .i64 0,.string ⟨#[]⟩] 113)
       rw [show (w.alloc (.cells #[.bool wide,.int .i64 x,.bool true,.bool false,.bool false,.string u] 59)).heap.size=w.heap.size+1 by simp] at h
       exact h
      have hbb:Below w.heap.size w (((w.alloc (.cells #[.bool wide,.int .i64 x,.bool true,.bool false,.bool false,.string u] 59)).alloc (.cells #[.int .i64 0,.string ⟨#[]⟩] 113)).drewN nq):=by
       have h:=((Below.refl w.heap.size w).alloc (Nat.le_refl _) (.cells #[.bool wide,.int .i64 x,.bool true,.bool false,.bool false,.string u] 59)).alloc (by simp) (.cells #[.int .i64 0,.string ⟨#[]⟩] 113)
       exact ⟨h.os,h.tape,h.output,h.size,h.block⟩
      have hfin:(((((w.alloc (.cells #[.bool wide,.int .i64 x,.bool true,.bool false,.bool false,.string u] 59)).alloc (.cells #[.int .i64 0,.string ⟨#[]⟩] 113)).drewN nq).setCell ⟨w.heap.size+1,0,none⟩ (.int .i64 3)).setCell ⟨w.heap.size+1,1,none⟩ (.string ⟨#[]⟩)).heap[w.heap.size+1]?=some (.cells #[.int .i64 3,.string ⟨#[]⟩] 113):=by
       rw [heap_setCell_same _ _ 1 _ _ _ (heap_setCell_same _ _ 0 _ _ _ hO1)]
       rfl
      have hld:=run_loadVar_row (P:=Tryz.prog) (((((w.alloc (.cells #[.bool wide,.int .i64 x,.bool true,.bool false,.bool false,.string u] 59)).alloc (.cells #[.int .i64 0,.string ⟨#[]⟩] 113)).drewN nq).setCell ⟨w.heap.size+1,0,none⟩ (.int .i64 3)).setCell ⟨w.heap.size+1,1,none⟩ (.string ⟨#[]⟩)) (w.heap.size+1) 113 113 #[.int .i64 3,.string ⟨#[]⟩] (0,0) _ hfin Tryz.underlying113 rfl infoF
      have hbf:Below w.heap.size w (((((w.alloc (.cells #[.bool wide,.int .i64 x,.bool true,.bool false,.bool false,.string u] 59)).alloc (.cells #[.int .i64 0,.string ⟨#[]⟩] 113)).drewN nq).setCell ⟨w.heap.size+1,0,none⟩ (.int .i64 3)).setCell ⟨w.heap.size+1,1,none⟩ (.string ⟨#[]⟩)):=((hbb).setCell (p:=⟨w.heap.size+1,0,none⟩) (Nat.le_succ _) _).setCell (p:=⟨w.heap.size+1,1,none⟩) (Nat.le_succ _) _
      refine bodyPost_ret (v:=endV [⟨3,[]⟩]) ?_ rfl ⟨rfl,hbf⟩
      simp [results,Tryz.results103,asAddr,Result.andThen,hld,endV,txt]
     ·have hkl:tailN wide<u.size:=by omega
      obtain ⟨m,hm⟩:∃ m:Nat,u.size=m+tailN wide:=⟨u.size - tailN wide,by omega⟩
      have hE:Hd.endOf (gd wide) ⟨true,false,false,u.data.toList⟩=(if goodV u wide then [⟨1,u.data.toList.take m⟩] else [⟨2,[]⟩]):=by
       simp only [Hd.endOf]
       rw [if_neg (by simp),if_neg (by simp),if_neg (by simp [hnn]),if_neg (by simp),if_neg (show ¬ u.data.toList.length≤(gd wide).k by rw [hlen];exact hc),show u.data.toList.length - (gd wide).k=m from by rw [hlen];show u.size - tailN wide=m;omega]
       show (if (!goodV u wide)=true then _ else _)=_
       cases goodV u wide<;>rfl
      have HX:Hid (u.extract 0 m=txt (u.data.toList.take m)):=hide (by
       apply ByteArray.ext
       apply Array.ext'
       simp [txt,ByteArray.data_extract])
      have hgv:=hng rfl rfl rfl hkl
      rw [show Hd.endOf (gd wide) ⟨true,false,false,u.data.toList⟩=[⟨2,[]⟩] by rw [hE,hgv];rfl]
      rw [hgv] at HG
      clear hgv hE
      all_goals
       generalize tailN wide=k at *
       have d3:¬ ((u.size:Int)≤(k:Int)):=by omega
       have d4:decide ((u.size:Int)≤(k:Int))=false:=decide_eq_false d3
       have d5:(u.size:Int) - (k:Int)=(m:Int):=by omega
       have d6:(m:Int)≤(u.size:Int):=by omega
       clear hnn hlen hm hc
       go_enter Tryz.func103,Tryz.ntmps103
       go_wp2_with fail
       go_quiet (first
        | (go_at_call 127;refine Calls.quiet_of_same (uh HM _)))
       go_wp2_with fail
       refine (uh HG _).mono ?_
       rintro e w2 ⟨rfl,hb2⟩
       have hO1:(((w.alloc (.cells #[.bool wide,.int .i64 x,.bool true,.bool false,.bool false,.string u] 59)).alloc (.cells #[.int .i64 0,.string ⟨#[]⟩] 113)).drewN nq).heap[w.heap.size+1]?=some (.cells #[.int .i64 0,.string ⟨#[]⟩] 113):=by
        have h:=heap_alloc_last (w.alloc (.cells #[.bool wide,.int .i64 x,.bool true,.bool false,.bool false,.string u] 59)) (.cells #[.int .i64 0,.string ⟨#[]⟩] 113)
        rw [show (w.alloc (.cells #[.bool wide,.int .i64 x,.bool true,.bool false,.bool false,.string u] 59)).heap.size=w.heap.size+1 by simp] at h
        exact h
       have hbb:Below w.heap.size w (((w.alloc (.cells #[.bool wide,.int .i64 x,.bool true,.bool false,.bool false,.string u] 59)).alloc (.cells #[.int .i64 0,.string ⟨#[]⟩] 113)).drewN nq):=by
        have h:=((Below.refl w.heap.size w).alloc (Nat.le_refl _) (.cells #[.bool wide,.int .i64 x,.bool true,.bool false,.bool false,.string u] 59)).alloc (by simp) (.cells #[.int .i64 0,.string ⟨#[]⟩] 113)
        exact ⟨h.os,h.tape,h.output,h.size,h.block⟩
       have hD1:(((w.alloc (.cells #[.bool wide,.int .i64 x,.bool true,.bool false,.bool false,.string u] 59)).alloc (.cells #[.int .i64 0,.string ⟨#[]⟩] 113)).drewN nq).heap[w.heap.size]?=some (.cells #[.bool wide,.int .i64 x,.bool true,.bool false,.bool false,.string u] 59):=(Below.heap_alloc _ _ _ (by simp)).trans (heap_alloc_last w _)
       have hszb:(((w.alloc (.cells #[.bool wide,.int .i64 x,.bool true,.bool false,.bool false,.string u] 59)).alloc (.cells #[.int .i64 0,.string ⟨#[]⟩] 113)).drewN nq).heap.size=w.heap.size+2:=by show ((w.alloc (.cells #[.bool wide,.int .i64 x,.bool true,.bool false,.bool false,.string u] 59)).alloc (.cells #[.int .i64 0,.string ⟨#[]⟩] 113)).heap.size=_;simp
       have hD2:=(hb2.block w.heap.size (by rw [hszb];omega)).trans hD1
       have hO2:=(hb2.block (w.heap.size+1) (by rw [hszb];omega)).trans hO1
       have hbb2:Below w.heap.size w w2:=hbb.trans (hb2.mono (by rw [hszb];omega))
       obtain ⟨j0,j1,j2,j3,j4,j5⟩:=row6' hD2
       obtain ⟨o0,o1,q0,q1⟩:=row2' hO2
       clear hO1 hbb hD1 hszb hb2 hD2
      ·go_wp2
       have hfin:((w2.setCell ⟨w.heap.size+1,0,none⟩ (.int .i64 2)).setCell ⟨w.heap.size+1,1,none⟩ (.string ⟨#[]⟩)).heap[w.heap.size+1]?=some (.cells #[.int .i64 2,.string ⟨#[]⟩] 113):=by
        rw [heap_setCell_same _ _ 1 _ _ _ (heap_setCell_same _ _ 0 _ _ _ hO2)]
        rfl
       have hld:=run_loadVar_row (P:=Tryz.prog) ((w2.setCell ⟨w.heap.size+1,0,none⟩ (.int .i64 2)).setCell ⟨w.heap.size+1,1,none⟩ (.string ⟨#[]⟩)) (w.heap.size+1) 113 113 #[.int .i64 2,.string ⟨#[]⟩] (0,0) _ hfin Tryz.underlying113 rfl infoF
       have hbf:Below w.heap.size w ((w2.setCell ⟨w.heap.size+1,0,none⟩ (.int .i64 2)).setCell ⟨w.heap.size+1,1,none⟩ (.string ⟨#[]⟩)):=((hbb2).setCell (p:=⟨w.heap.size+1,0,none⟩) (Nat.le_succ _) _).setCell (p:=⟨w.heap.size+1,1,none⟩) (Nat.le_succ _) _
       apply bodyPost_ret (v:=endV [⟨2,[]⟩])
       ·simp [results,Tryz.results103,asAddr,Result.andThen,hld,endV,txt]
       ·rfl
       ·exact ⟨rfl,hbf⟩
    ·have hE:Hd.endOf (gd wide) ⟨true,false,true,u.data.toList⟩=[⟨5,[]⟩]:=by simp [Hd.endOf]
     rw [hE]
     go_enter Tryz.func103,Tryz.ntmps103
     go_wp2
     refine bodyPost_ret (v:=endV [⟨5,[]⟩]) (by simp [results,Tryz.results103,go_sem,endV,txt]) rfl ⟨rfl,?_⟩
     exact ((Below.refl _ _).alloc (Nat.le_refl _) _).alloc (by simp) _
  ·have hE:Hd.endOf (gd wide) ⟨true,true,long,u.data.toList⟩=[⟨4,[]⟩]:=by simp [Hd.endOf]
   rw [hE]
   go_enter Tryz.func103,Tryz.ntmps103
   go_wp2
   refine bodyPost_ret (v:=endV [⟨4,[]⟩]) (by simp [results,Tryz.results103,go_sem,endV,txt]) rfl ⟨rfl,?_⟩
   exact ((Below.refl _ _).alloc (Nat.le_refl _) _).alloc (by simp) _
set_option maxHeartbeats 2000000 in
theorem specEnd_good (wide:Bool) (x:Int) (u:ByteArray) (w:World) (hu:u.size≤304) (hkl:tailN wide<u.size) (hgv:goodV u wide=true) :
  Calls Tryz.prog 103 #[.agg #[.bool wide,.int .i64 x,.bool true,.bool false,.bool false,.string u]] w fun e w'=>e=.returned (endV [⟨1,u.data.toList.take (u.size - tailN wide)⟩])∧Below w.heap.size w w':=by
 have HM:=hide (many' wide)
 have HG:=hide fun v=>specGoodB u wide v (by omega)
 rw [hgv] at HG
 have hk4:=tailN_le wide
 have d2:=not_empty (t:=u) (by omega)
 obtain ⟨m,hm⟩:∃ m:Nat,u.size=m+tailN wide:=⟨u.size - tailN wide,by omega⟩
 rw [show u.size - tailN wide=m by omega]
 have HX:Hid (u.extract 0 m=txt (u.data.toList.take m)):=hide (by
  apply ByteArray.ext
  apply Array.ext'
  simp [txt,ByteArray.data_extract])
 generalize tailN wide=k at *
 have d3:¬ ((u.size:Int)≤(k:Int)):=by omega
 have d4:decide ((u.size:Int)≤(k:Int))=false:=decide_eq_false d3
 have d5:(u.size:Int) - (k:Int)=(m:Int):=by omega
 have d6:(m:Int)≤(u.size:Int):=by omega
 have d7:IntKind.i64.wrap (m:Int)=(m:Int):=by rw [IntKind.wrap_i64];omega
 clear hm hgv
 go_enter Tryz.func103,Tryz.ntmps103
 go_wp2_with fail
 go_quiet (first
  | (go_at_call 127;refine Calls.quiet_of_same (uh HM _)))
 go_wp2_with fail
 refine (uh HG _).mono ?_
 rintro e w2 ⟨rfl,hb2⟩
 have hO1:(((w.alloc (.cells #[.bool wide,.int .i64 x,.bool true,.bool false,.bool false,.string u] 59)).alloc (.cells #[.int .i64 0,.string ⟨#[]⟩] 113)).drewN nq).heap[w.heap.size+1]?=some (.cells #[.int .i64 0,.string ⟨#[]⟩] 113):=by
  have h:=heap_alloc_last (w.alloc (.cells #[.bool wide,.int .i64 x,.bool true,.bool false,.bool false,.string u] 59)) (.cells #[.int .i64 0,.string ⟨#[]⟩] 113)
  rw [show (w.alloc (.cells #[.bool wide,.int .i64 x,.bool true,.bool false,.bool false,.string u] 59)).heap.size=w.heap.size+1 by simp] at h
  exact h
 have hbb:Below w.heap.size w (((w.alloc (.cells #[.bool wide,.int .i64 x,.bool true,.bool false,.bool false,.string u] 59)).alloc (.cells #[.int .i64 0,.string ⟨#[]⟩] 113)).drewN nq):=by
  have h:=((Below.refl w.heap.size w).alloc (Nat.le_refl _) (.cells #[.bool wide,.int .i64 x,.bool true,.bool false,.bool false,.string u] 59)).alloc (by simp) (.cells #[.int .i64 0,.string ⟨#[]⟩] 113)
  exact ⟨h.os,h.tape,h.output,h.size,h.block⟩
 have hD1:(((w.alloc (.cells #[.bool wide,.int .i64 x,.bool true,.bool false,.bool false,.string u] 59)).alloc (.cells #[.int .i64 0,.string ⟨#[]⟩] 113)).drewN nq).heap[w.heap.size]?=some (.cells #[.bool wide,.int .i64 x,.bool true,.bool false,.bool false,.string u] 59):=(Below.heap_alloc _ _ _ (by simp)).trans (heap_alloc_last w _)
 have hszb:(((w.alloc (.cells #[.bool wide,.int .i64 x,.bool true,.bool false,.bool false,.string u] 59)).alloc (.cells #[.int .i64 0,.string ⟨#[]⟩] 113)).drewN nq).heap.size=w.heap.size+2:=by show ((w.alloc (.cells #[.bool wide,.int .i64 x,.bool true,.bool false,.bool false,.string u] 59)).alloc (.cells #[.int .i64 0,.string ⟨#[]⟩] 113)).heap.size=_;simp
 have hD2:=(hb2.block w.heap.size (by rw [hszb];omega)).trans hD1
 have hO2:=(hb2.block (w.heap.size+1) (by rw [hszb];omega)).trans hO1
 have hbb2:Below w.heap.size w w2:=hbb.trans (hb2.mono (by rw [hszb];omega))
 obtain ⟨j0,j1,j2,j3,j4,j5⟩:=row6' hD2
 obtain ⟨o0,o1,q0,q1⟩:=row2' hO2
 clear hO1 hbb hD1 hszb hb2 hD2
 go_wp2_with fail
 have hfin:(((w2.setCell ⟨w.heap.size+1,0,none⟩ (.int .i64 1)).setCell ⟨w.heap.size+1,1,none⟩ (.string (u.extract 0 m))).drew).heap[w.heap.size+1]?=some (.cells #[.int .i64 1,.string (u.extract 0 m)] 113):=by
  show ((w2.setCell ⟨w.heap.size+1,0,none⟩ (.int .i64 1)).setCell ⟨w.heap.size+1,1,none⟩ (.string (u.extract 0 m))).heap[w.heap.size+1]?=_
  rw [heap_setCell_same _ _ 1 _ _ _ (heap_setCell_same _ _ 0 _ _ _ hO2)]
  rfl
 have HLD:=hide (run_loadVar_row (P:=Tryz.prog) (((w2.setCell ⟨w.heap.size+1,0,none⟩ (.int .i64 1)).setCell ⟨w.heap.size+1,1,none⟩ (.string (u.extract 0 m))).drew) (w.heap.size+1) 113 113 #[.int .i64 1,.string (u.extract 0 m)] (0,0) _ hfin Tryz.underlying113 rfl infoF)
 have HBF:Hid (Below w.heap.size w ((w2.setCell ⟨w.heap.size+1,0,none⟩ (.int .i64 1)).setCell ⟨w.heap.size+1,1,none⟩ (.string (u.extract 0 m))).drew):=hide (((hbb2).setCell (p:=⟨w.heap.size+1,0,none⟩) (Nat.le_succ _) _).setCell (p:=⟨w.heap.size+1,1,none⟩) (Nat.le_succ _) _).drew
 clear hfin hbb2
 have hne:¬ (w.heap.size+1=w.heap.size):=by omega
 have hne2:¬ (w.heap.size=w.heap.size+1):=by omega
 go_region_held (fun q=>q.cell? ⟨w.heap.size,5,none⟩=some (.string u)∧q.cell? ⟨w.heap.size,0,none⟩=some (.bool wide)) (first | go_keep) (first
  | (go_at_call 127;refine (uh HM _).mono ?_;rintro e w3 ⟨rfl,rfl⟩))
 all_goals go_wp2
 all_goals
  apply bodyPost_ret (v:=endV [⟨1,u.data.toList.take m⟩])
  ·have hld:=uh HLD
   rw [uh HX] at hld
   simp [results,Tryz.results103,asAddr,Result.andThen,hld,endV,uh HX]
  ·rfl
  ·exact ⟨rfl,uh HBF⟩
theorem specEnd (wide:Bool) (x:Int) (inn esc long:Bool) (u:ByteArray) (w:World) (hu:u.size≤304) :
  Calls Tryz.prog 103 #[.agg #[.bool wide,.int .i64 x,.bool inn,.bool esc,.bool long,.string u]] w fun e w'=>e=.returned (endV (Hd.endOf (gd wide) ⟨inn,esc,long,u.data.toList⟩))∧Below w.heap.size w w':=by
 by_cases h:inn=true∧esc=false∧long=false∧tailN wide<u.size∧goodV u wide=true
 ·obtain ⟨rfl,rfl,rfl,hk,hg⟩:=h
  have hlen:u.data.toList.length=u.size:=by rw [Array.length_toList];rfl
  have hE:Hd.endOf (gd wide) ⟨true,false,false,u.data.toList⟩=[⟨1,u.data.toList.take (u.size - tailN wide)⟩]:=by
   simp only [Hd.endOf]
   have hnn:¬ u.data.toList=[]:=fun e=>by rw [e] at hlen;simp at hlen;omega
   rw [if_neg (by simp),if_neg (by simp),if_neg (by simp [hnn]),if_neg (by simp),if_neg (show ¬ u.data.toList.length≤(gd wide).k by rw [hlen];show ¬ u.size≤tailN wide;omega),hlen]
   show (if (!goodV u wide)=true then _ else _)=_
   rw [hg]
   rfl
  rw [hE]
  exact specEnd_good wide x u w hu hk hg
 ·refine specEnd_but wide x inn esc long u w hu fun h1 h2 h3 h4=>?_
  cases hg:goodV u wide
  ·rfl
  ·exact absurd ⟨h1,h2,h3,h4,hg⟩ h
set_option maxHeartbeats 400000 in
theorem sFar (n a:Int) (hn:0≤n∧n≤7) (ha:0≤a∧a≤7) (w:World):Calls Tryz.prog 71 #[.int .i64 a,.int .i64 n] w fun e w'=>e=.returned (.int .i64 (far n a))∧w'=w:=by
 unfold far
 go_enter Tryz.func71,Tryz.ntmps71
 go_wp2
 go_ret
 exact ⟨ret_int (by omega),rfl⟩
set_option maxHeartbeats 4000000 in
theorem sLpRight (p:Lp) (x:Option Addr) (y:Nat) (L:List ByteArray) (w:World) (hl:L.length≤1048576) (h:HoldsS w (.slice x L.length y) L) :
  Calls Tryz.prog 69 #[.agg (lpC p (.slice x L.length y))] w fun e w'=>e=.returned (.bool (lpOk p L))∧Below w.heap.size w w':=by
 have C1:=hide fun v=>sWin p.wi v
 have C2:=hide fun v=>sNumber p.vs v
 have C3:=hide fun v=>sNumber p.va v
 have C4:=hide fun v=>sNumber p.vr v
 have hA:=hide ((Below.refl w.heap.size w).alloc (Nat.le_refl _) (.cells (lpC p (.slice x L.length y)) 54))
 have hN:=hide (heap_alloc_new w (.cells (lpC p (.slice x L.length y)) 54))
 have HA:=hide h
 obtain ⟨R,hR⟩:∃ R,lpOk p L=R:=⟨_,rfl⟩
 rw [hR]
 unfold lpOk qOk at hR
 have n2:(decide (0≤p.vs) && decide (p.vs≤7))=numOk p.vs:=rfl
 have n3:(decide (0≤p.va) && decide (p.va≤7))=numOk p.va:=rfl
 have n4:(decide (0≤p.vr) && decide (p.vr≤7))=numOk p.vr:=rfl
 rw [n2] at C2
 rw [n3] at C3
 rw [n4] at C4
 obtain ⟨wi,vs,va,vr,ak⟩:=p
 unfold lpC at hA hN ⊢
 dsimp only at *
 clear h n2 n3 n4
 generalize hn:L.length=n at *
 cases b1:winOk wi
 ·rw [b1] at hR
  simp only [Bool.false_and] at hR
  subst hR
  rw [b1] at C1
  go_enter Tryz.func69,Tryz.ntmps69
  go_wp2_with fail
  refine (uh C1 _).mono ?_
  rintro e w2 ⟨rfl,hw⟩
  replace hw:=hw.symm
  subst hw
  go_wp2
  go_ret
  exact ⟨rfl,uh hA⟩
 cases b2:numOk vs
 ·rw [b1,b2] at hR
  simp only [Bool.true_and,Bool.false_and] at hR
  subst hR
  rw [b1] at C1
  rw [b2] at C2
  go_enter Tryz.func69,Tryz.ntmps69
  go_wp2_with fail
  refine (uh C1 _).mono ?_
  rintro e w2 ⟨rfl,hw⟩
  replace hw:=hw.symm
  subst hw
  go_wp2_with fail
  refine (uh C2 _).mono ?_
  rintro e w2 ⟨rfl,hw⟩
  replace hw:=hw.symm
  subst hw
  go_wp2
  go_ret
  exact ⟨rfl,uh hA⟩
 cases b3:numOk va
 ·rw [b1,b2,b3] at hR
  simp only [Bool.true_and,Bool.false_and] at hR
  subst hR
  rw [b1] at C1
  rw [b2] at C2
  rw [b3] at C3
  go_enter Tryz.func69,Tryz.ntmps69
  go_wp2_with fail
  refine (uh C1 _).mono ?_
  rintro e w2 ⟨rfl,hw⟩
  replace hw:=hw.symm
  subst hw
  go_wp2_with fail
  refine (uh C2 _).mono ?_
  rintro e w2 ⟨rfl,hw⟩
  replace hw:=hw.symm
  subst hw
  go_wp2_with fail
  refine (uh C3 _).mono ?_
  rintro e w2 ⟨rfl,hw⟩
  replace hw:=hw.symm
  subst hw
  go_wp2
  go_ret
  exact ⟨rfl,uh hA⟩
 cases b4:numOk vr
 ·rw [b1,b2,b3,b4] at hR
  simp only [Bool.true_and,Bool.false_and] at hR
  subst hR
  rw [b1] at C1
  rw [b2] at C2
  rw [b3] at C3
  rw [b4] at C4
  go_enter Tryz.func69,Tryz.ntmps69
  go_wp2_with fail
  refine (uh C1 _).mono ?_
  rintro e w2 ⟨rfl,hw⟩
  replace hw:=hw.symm
  subst hw
  go_wp2_with fail
  refine (uh C2 _).mono ?_
  rintro e w2 ⟨rfl,hw⟩
  replace hw:=hw.symm
  subst hw
  go_wp2_with fail
  refine (uh C3 _).mono ?_
  rintro e w2 ⟨rfl,hw⟩
  replace hw:=hw.symm
  subst hw
  go_wp2_with fail
  refine (uh C4 _).mono ?_
  rintro e w2 ⟨rfl,hw⟩
  replace hw:=hw.symm
  subst hw
  go_wp2
  go_ret
  exact ⟨rfl,uh hA⟩
 rw [b1,b2,b3,b4] at hR
 simp only [Bool.true_and] at hR
 rw [b1] at C1
 rw [b2] at C2
 rw [b3] at C3
 rw [b4] at C4
 by_cases h20:¬ n≤20
 ·rw [show decide (n≤20)=false from decide_eq_false h20,Bool.false_and,Bool.false_and] at hR
  subst hR
  have d1:(20:Int)<(n:Int):=by omega
  go_enter Tryz.func69,Tryz.ntmps69
  go_wp2_with fail
  refine (uh C1 _).mono ?_
  rintro e w2 ⟨rfl,hw⟩
  replace hw:=hw.symm
  subst hw
  go_wp2_with fail
  refine (uh C2 _).mono ?_
  rintro e w2 ⟨rfl,hw⟩
  replace hw:=hw.symm
  subst hw
  go_wp2_with fail
  refine (uh C3 _).mono ?_
  rintro e w2 ⟨rfl,hw⟩
  replace hw:=hw.symm
  subst hw
  go_wp2_with fail
  refine (uh C4 _).mono ?_
  rintro e w2 ⟨rfl,hw⟩
  replace hw:=hw.symm
  subst hw
  go_wp2
  go_ret
  exact ⟨rfl,uh hA⟩
 replace h20:n≤20:=by omega
 rw [show decide (n≤20)=true from decide_eq_true h20,Bool.true_and] at hR
 have d1:¬ ((20:Int)<(n:Int)):=by omega
 have CF:=hide fun v=>sFar vs va (numOk_iff b2) (numOk_iff b3) v
 obtain ⟨f0,f8⟩:=far_lt vs va
 have w1:=winOk_iff b1
 generalize far vs va=f at *
 go_enter Tryz.func69,Tryz.ntmps69
 go_wp2_with fail
 refine (uh C1 _).mono ?_
 rintro e w2 ⟨rfl,hw⟩
 replace hw:=hw.symm
 subst hw
 go_wp2_with fail
 refine (uh C2 _).mono ?_
 rintro e w2 ⟨rfl,hw⟩
 replace hw:=hw.symm
 subst hw
 go_wp2_with fail
 refine (uh C3 _).mono ?_
 rintro e w2 ⟨rfl,hw⟩
 replace hw:=hw.symm
 subst hw
 go_wp2_with fail
 refine (uh C4 _).mono ?_
 rintro e w2 ⟨rfl,hw⟩
 replace hw:=hw.symm
 subst hw
 go_wp2_with fail
 refine gen_world (fun q=>q.heap[w.heap.size]?=some (.cells #[.int .i64 wi,.int .i64 vs,.int .i64 va,.int .i64 vr,.slice x n y,.bool ak] 54)∧Below w.heap.size w q) ⟨uh hN,uh hA⟩ ?_
 rintro q ⟨hq1,hq2⟩
 obtain ⟨a0,a1,a2,a3,a4,a5⟩:=row6l hq1
 have HH:=(uh HA).below (show Below w.heap.size w q from hq2)
 replace HA:=hide HH
 have HB:=hide hq2
 obtain ⟨Ra,hRa⟩:∃ Ra,(L.all fun t=>decide (t.size≤200))=Ra:=⟨_,rfl⟩
 rw [hRa] at hR
 have HR:=hide hRa
 clear hq1 hq2 HH hRa hA hN C1 C2 C3 C4
 go_loopw [3] (fun y wr=>∃ (i:Nat),i≤n∧y=.int .i64 i∧wr=q∧((L.take i).all fun t=>decide (t.size≤200))=true) (fun y _=>n - (intOf y).toNat)
 case atStart=>exact ⟨0,Nat.zero_le _,rfl,rfl,rfl⟩
 case round =>
  obtain ⟨i,hi,rfl,rfl,ha⟩:=hrel
  by_cases hlt:i<n
  ·have d2:(i:Int)<(n:Int):=by omega
   have d0:(0:Int)≤(i:Int):=by omega
   obtain ⟨g,o,cp,e1,hg,k1⟩:=(uh HA).get i (by omega)
   cases e1
   by_cases h2:(L[i]'(by omega)).size≤200
   ·have hT:=all_take (L:=L) (i:=i) (by omega)
    rw [ha,decide_eq_true h2,Bool.true_and] at hT
    have HT:=hide hT
    have d3:¬ ((200:Int)<((L[i]'(by omega)).size:Int)):=by omega
    generalize L[i]'(by omega)=t at *
    clear ha hT
    go_wp2
    go_roundw
    case rel=>exact ⟨i+1,by omega,by go_num,trivial,uh HT⟩
    case measure=>simp [intOf];omega
   ·have hT:=all_not (L:=L) (i:=i) (by omega) h2
    have hRa:=(uh HR).symm.trans hT
    subst hRa
    rw [Bool.false_and] at hR
    subst hR
    have d3:(200:Int)<((L[i]'(by omega)).size:Int):=by omega
    generalize L[i]'(by omega)=t at *
    clear ha hT
    go_wp2
    go_ret
    exact ⟨rfl,uh HB⟩
  ·have e:i=n:=by omega
   subst e
   rw [List.take_of_length_le (by omega)] at ha
   have hRa:=(uh HR).symm.trans ha
   subst hRa
   rw [Bool.true_and] at hR
   have d1:¬ ((i:Int)<(i:Int)):=by omega
   clear ha
   by_cases hf:f≤wi
   ·have d2:decide (f≤wi)=true:=decide_eq_true hf
    rw [d2,Bool.true_and] at hR
    subst hR
    go_wp2_with fail
    refine (uh CF _).mono ?_
    rintro e w2 ⟨rfl,hw⟩
    replace hw:=hw.symm
    subst hw
    go_wp2
    go_ret
    exact ⟨rfl,uh HB⟩
   ·have d2:decide (f≤wi)=false:=decide_eq_false hf
    rw [d2,Bool.false_and] at hR
    subst hR
    go_wp2_with fail
    refine (uh CF _).mono ?_
    rintro e w2 ⟨rfl,hw⟩
    replace hw:=hw.symm
    subst hw
    go_wp2
    go_ret
    exact ⟨rfl,uh HB⟩
end Go.Proofs.YtkcghhkkepndnaaGreatDoor
