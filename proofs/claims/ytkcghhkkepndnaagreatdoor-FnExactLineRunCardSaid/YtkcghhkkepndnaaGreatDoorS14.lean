/- What a flag finds inside a frame (endFrame): the walk; only the deframing itself and new memory are turned; under the library's two tables as they are laid. -/
import Derived.Test.YtkcghhkkepndnaaGreatDoorS04
import Derived.Test.YtkcghhkkepndnaaGreatDoorS06
import Derived.Test.YtkcghhkkepndnaaGreatDoorShW
namespace Go.Proofs.YtkcghhkkepndnaaGreatDoor
open Go.RowKit
def gd (wide:Bool):Hd.Gd:=⟨fun l=>goodV (txt l) wide,tailN wide⟩
def add (fs F:List Hd.Fd):List Hd.Fd:=if fs.length<400 then fs ++ F else fs
theorem add_nil (fs:List Hd.Fd):add fs []=fs:=by unfold add;split<;>simp
theorem conv_held {w:World} {B g:Nat} {cs:Array Value} {wide long:Bool} {held:List UInt8} {fs:List Hd.Fd} {T:TypeId} (hB:w.heap[B]?=some (.cells cs T)) (hd:Dc cs g wide long held fs) (k cap:Nat) (hk:k≤held.length) :
  (convert 22 9 (.slice (some ⟨B,3,none⟩) k cap)).run Tryz.prog w=.ok (.string (txt (held.take k))) w:=by
 have hl:(nums (held.take k)).length=k:=by simp [nums];omega
 rw [← txt_nums]
 refine run_convert_bytes_arg (P:=Tryz.prog) w 22 5 Tryz.underlying22 Tryz.underlying5 B 3 k cap (nums (held.take k)) hl (fun i hi=>?_) 9 Tryz.underlying9
 have hi2:i<held.length:=by omega
 rw [cell_of_row _ _ _ _ _ _ hB,hd.hv i held[i] (List.getElem?_eq_getElem hi2)]
 simp [nums,List.getD,hi,hi2]

set_option maxHeartbeats 2000000 in
set_option maxRecDepth 20000 in
theorem endW (w:World) (B g:Nat) (wide long:Bool) (held:List UInt8) (fs:List Hd.Fd) (h:Dw w B g wide long held fs) (hT:Lib.Utf8Tabs 0 1 w) :
  Calls Tryz.prog 135 #[.pointer (some ⟨B,0,none⟩)] w fun e w'=>e=.returned (.tuple #[]) ∧
   Dw w' B g wide false [] (add fs (Hd.endOf (gd wide) ⟨true,false,long,held⟩))∧Near B w w':=by
 have hBw:=h.lt
 have HW:=hide h
 obtain ⟨cs,hB,hd⟩:=h
 have e0:w.cell? ⟨B,0,none⟩=some (.bool wide):=by rw [cell_of_row _ _ _ _ _ _ hB];exact hd.c0
 have e1:w.cell? ⟨B,1,none⟩=some (.bool long):=by rw [cell_of_row _ _ _ _ _ _ hB];exact hd.c1
 have e2:w.cell? ⟨B,307,none⟩=some (.int .i64 held.length):=by rw [cell_of_row _ _ _ _ _ _ hB];exact hd.cz
 have hl:=hd.hl
 have HB:=hide hB
 have HD:=hide hd
 have HS:=hide (size' wide)
 have hk4:=tailN_le wide
 by_cases h0:held=[]∧long=false
 ·obtain ⟨rfl,rfl⟩:=h0
  rw [show Hd.endOf (gd wide) ⟨true,false,false,[]⟩=[] from rfl,add_nil]
  clear hB hd
  go_enter Tryz.func135,Tryz.ntmps135
  go_wp2
  refine bodyPost_ret (v:=.tuple #[]) (by simp [results,Tryz.results135,go_sem]) rfl ⟨rfl,uh HW,Near.refl _ _⟩
 ·cases long
  ·have hz:¬ held.length=0:=fun e=>h0 ⟨List.eq_nil_of_length_eq_zero e,rfl⟩
   have d0:((held.length:Int) == 0)=false:=beq_eq_false_iff_ne.2 (by omega)
   by_cases hc:held.length≤tailN wide
   ·have hE:Hd.endOf (gd wide) ⟨true,false,false,held⟩=[⟨3,[]⟩]:=by
     simp only [Hd.endOf]
     rw [if_neg (by simp),if_neg (by simp),if_neg (by simpa using h0),if_neg (by simp),if_pos (show held.length≤(gd wide).k from hc)]
    rw [hE]
    have C:Hid (∀ v,Dw v B g wide false held fs→Calls Tryz.prog 137 #[.pointer (some ⟨B,0,none⟩),.agg #[.int .i64 3,.string ⟨#[]⟩]] v fun e w'=>e=.returned (.tuple #[])∧Dw w' B g wide false [] (if fs.length<400 then fs ++ [⟨3,[]⟩] else fs)∧Near B v w'):=hide fun v hv=>tellW v B g wide false held fs ⟨3,[]⟩ hv
    generalize tailN wide=k at *
    have d1:(held.length:Int) - (k:Int)<1:=by omega
    clear hB hd hE h0
    go_enter Tryz.func135,Tryz.ntmps135
    go_wp2_with fail
    go_quiet (first
     | (go_at_call 131;refine Calls.quiet_of_same (uh HS _)))
    go_wp2_with fail
    refine (uh C (w.drewN nq) ((uh HW).same rfl)).mono ?_
    rintro e w2 ⟨rfl,hw2,hn2⟩
    have HN:Hid (Near B w w2):=hide ⟨hn2.os,hn2.tape,hn2.output,hn2.size,hn2.block⟩
    clear hn2
    go_wp2
    refine bodyPost_end (v:=.tuple #[]) (by simp [results,Tryz.results135,go_sem]) rfl ⟨rfl,hw2,uh HN⟩
   ·have hkl:tailN wide<held.length:=by omega
    obtain ⟨m,hm⟩:∃ m:Nat,held.length=m+tailN wide:=⟨held.length - tailN wide,by omega⟩
    have hG:Hid (∀ v,Lib.Utf8Tabs 0 1 v→Calls Tryz.prog 141 #[.string (txt held),.bool wide] v fun e w'=>e=.returned (.bool ((gd wide).good held))∧Below v.heap.size v w') :=
     hide fun v hv=>implGoodAll (txt held) wide v (by rw [txt_size];unfold maxLen;omega) hv
    have hE:Hd.endOf (gd wide) ⟨true,false,false,held⟩=(if (gd wide).good held then [⟨1,held.take m⟩] else [⟨2,[]⟩]):=by
     simp only [Hd.endOf]
     rw [if_neg (by simp),if_neg (by simp),if_neg (by simpa using h0),if_neg (by simp),if_neg (show ¬ held.length≤(gd wide).k from hc),show held.length - (gd wide).k=m from by show held.length - tailN wide=m;omega]
     cases (gd wide).good held<;>rfl
    rw [hE]
    clear hE
    have HT:=hide hT
    have HB':=HB
    have HG:=hide fun (v:World) (hv:v.heap[B]?=w.heap[B]?)=>show (convert 22 9 (.slice (some ⟨B,3,none⟩) held.length 304)).run Tryz.prog v=.ok (.string (txt held)) v from by
     have:=conv_held (hv.trans hB) hd held.length 304 (Nat.le_refl _)
     rw [List.take_length] at this
     exact this
    have HM:=hide fun (v:World) (hv:v.heap[B]?=w.heap[B]?)=>show (convert 22 9 (.slice (some ⟨B,3,none⟩) m 304)).run Tryz.prog v=.ok (.string (txt (held.take m))) v from
     conv_held (hv.trans hB) hd m 304 (by omega)
    generalize tailN wide=k at *
    have d1:¬ ((held.length:Int) - (k:Int)<1):=by omega
    have d2:(held.length:Int) - (k:Int)=(m:Int):=by omega
    have d3:(m:Int)≤304:=by omega
    have d4:(held.length:Int)≤304:=by omega
    have d5:¬ ((m:Int)<1):=by omega
    have C1:Hid (∀ v,Dw v B g wide false held fs→Calls Tryz.prog 137 #[.pointer (some ⟨B,0,none⟩),.agg #[.int .i64 1,.string (txt (held.take m))]] v fun e w'=>e=.returned (.tuple #[])∧Dw w' B g wide false [] (if fs.length<400 then fs ++ [⟨1,held.take m⟩] else fs)∧Near B v w'):=hide fun v hv=>tellW v B g wide false held fs ⟨1,held.take m⟩ hv
    have C2:Hid (∀ v,Dw v B g wide false held fs→Calls Tryz.prog 137 #[.pointer (some ⟨B,0,none⟩),.agg #[.int .i64 2,.string ⟨#[]⟩]] v fun e w'=>e=.returned (.tuple #[])∧Dw w' B g wide false [] (if fs.length<400 then fs ++ [⟨2,[]⟩] else fs)∧Near B v w'):=hide fun v hv=>tellW v B g wide false held fs ⟨2,[]⟩ hv
    clear hB hd h0 hT hc hm
    go_enter Tryz.func135,Tryz.ntmps135
    go_wp2_with fail
    go_quiet (first
     | (go_at_call 131;refine Calls.quiet_of_same (uh HS _)))
    go_wp2_with fail
    refine gen_world (fun v=>v.heap[B]?=w.heap[B]?∧B<v.heap.size∧Near B w v∧Lib.Utf8Tabs 0 1 v.drew) ⟨rfl,hBw,⟨rfl,rfl,rfl,Nat.le_refl _,fun _ _ _=>rfl⟩,Utf8Tabs_below (uh HT) ⟨rfl,rfl,rfl,Nat.le_refl _,fun _ _=>rfl⟩⟩ ?_
    have C1':=C1
    have C2':=C2
    clear e0 e1 e2 C1 C2 HT HB HW hBw
    rintro v ⟨hvB,hBv,hnv,hTv⟩
    have hBv2:v.heap[B]?=some (.cells cs 154):=hvB.trans (uh HB')
    have e0:v.cell? ⟨B,0,none⟩=some (.bool wide):=by rw [cell_of_row _ _ _ _ _ _ hBv2];exact (uh HD).c0
    have e2:v.cell? ⟨B,307,none⟩=some (.int .i64 held.length):=by rw [cell_of_row _ _ _ _ _ _ hBv2];exact (uh HD).cz
    have hcv1:=uh HG v hvB
    have hcv2:=uh HG v.drew hvB
    have HTv:=hide hTv
    have HNv:=hide hnv
    have HBv:=hide hBv2
    clear hTv hnv hBv2 hvB
    have KS:Hid (∀ u,u.heap[B]?=v.heap[B]?→u.cell? ⟨B,0,none⟩=some (.bool wide)∧u.cell? ⟨B,307,none⟩=some (.int .i64 held.length) ∧
      (convert 22 9 (.slice (some ⟨B,3,none⟩) held.length 304)).run Tryz.prog u=.ok (.string (txt held)) u):=by
     refine hide fun u hu=>?_
     have hu2:=hu.trans (uh HBv)
     exact ⟨by rw [cell_of_row _ _ _ _ _ _ hu2];exact (uh HD).c0,by rw [cell_of_row _ _ _ _ _ _ hu2];exact (uh HD).cz,uh HG u (hu2.trans (uh HB').symm)⟩
    have hS1:=uh KS v.drew rfl
    clear hcv1 hcv2 e0 e2
    cases hgo:(gd wide).good held
    all_goals
     rw [hgo] at hG
     go_region_held (fun u=>u.cell? ⟨B,0,none⟩=some (.bool wide)∧u.cell? ⟨B,307,none⟩=some (.int .i64 held.length) ∧
       (convert 22 9 (.slice (some ⟨B,3,none⟩) held.length 304)).run Tryz.prog u=.ok (.string (txt held)) u) (first | exact hS1 | assumption) (first
      | (go_at_call 141;refine (uh hG _ (uh HTv)).mono ?_;rintro e w2 ⟨rfl,hb2⟩;have hS2:=uh KS w2 (hb2.block B hBv)))
    case' false=>have HC:=C2'
    case' true=>have HC:=C1'
    all_goals
     have hw2B:w2.heap[B]?=v.heap[B]?:=hb2.block B hBv
     have hDw2:Dw w2 B g wide false held fs:=⟨cs,hw2B.trans (uh HBv),uh HD⟩
     have HN2:Hid (Near B w w2):=hide ((uh HNv).drew.of_below hb2)
     have hcv3:=uh HM w2 (hw2B.trans ((uh HBv).trans (uh HB').symm))
     clear hb2 hS1 hS2 hw2B
     go_wp2_with fail
     refine (uh HC w2 hDw2).mono ?_
     rintro e w3 ⟨rfl,hw3,hn3⟩
     have HN3:=hide ((uh HN2).trans hn3)
     have HW3:=hide hw3
     clear hn3 hw3
     go_wp2
     all_goals refine bodyPost_end (v:=.tuple #[]) (by simp [results,Tryz.results135,go_sem]) rfl ⟨rfl,uh HW3,uh HN3⟩
  ·have hE:Hd.endOf (gd wide) ⟨true,false,true,held⟩=[⟨5,[]⟩]:=by
    simp only [Hd.endOf]
    rw [if_neg (by simp),if_neg (by simp),if_neg (by simp),if_pos trivial]
   rw [hE]
   have C:Hid (∀ v,Dw v B g wide true held fs→Calls Tryz.prog 137 #[.pointer (some ⟨B,0,none⟩),.agg #[.int .i64 5,.string ⟨#[]⟩]] v fun e w'=>e=.returned (.tuple #[])∧Dw w' B g wide false [] (if fs.length<400 then fs ++ [⟨5,[]⟩] else fs)∧Near B v w'):=hide fun v hv=>tellW v B g wide true held fs ⟨5,[]⟩ hv
   generalize tailN wide=k at *
   clear hB hd hE h0
   by_cases hz:held.length=0
   case' pos=>have d0:((held.length:Int) == 0)=true:=beq_iff_eq.2 (by omega)
   case' neg=>have d0:((held.length:Int) == 0)=false:=beq_eq_false_iff_ne.2 (by omega)
   all_goals
    go_enter Tryz.func135,Tryz.ntmps135
    go_wp2_with fail
    go_quiet (first
     | (go_at_call 131;refine Calls.quiet_of_same (uh HS _)))
    go_wp2_with fail
    refine (uh C (w.drewN nq) ((uh HW).same rfl)).mono ?_
    rintro e w2 ⟨rfl,hw2,hn2⟩
    have HN:Hid (Near B w w2):=hide ⟨hn2.os,hn2.tape,hn2.output,hn2.size,hn2.block⟩
    clear hn2
    go_wp2
    refine bodyPost_end (v:=.tuple #[]) (by simp [results,Tryz.results135,go_sem]) rfl ⟨rfl,hw2,uh HN⟩
end Go.Proofs.YtkcghhkkepndnaaGreatDoor
