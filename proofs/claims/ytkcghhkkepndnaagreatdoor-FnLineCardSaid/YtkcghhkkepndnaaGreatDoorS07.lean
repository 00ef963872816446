/- What a flag finds inside a frame (endFrame): the walk; only the deframing itself and new memory are turned; under the library's two tables as they are laid. The deframer's loop of goto from state to state (goOver): the walk; what is held and found is as the mathematics says; only the deframing itself and new memory are turned; under the library's two tables as they are laid. -/
import Derived.Test.YtkcghhkkepndnaaGreatDoorS06
import Derived.Test.YtkcghhkkepndnaaGreatDoorS02
import Derived.Test.YtkcghhkkepndnaaGreatDoorShW
namespace Go.Proofs.YtkcghhkkepndnaaGreatDoor
open Go.RowKit
def gd (wide:Bool):Hd.Gd:=⟨fun l=>goodV (txt l) wide,tailN wide⟩
def add (fs F:List Hd.Fd):List Hd.Fd:=if fs.length<400 then fs ++ F else fs
theorem add_nil (fs:List Hd.Fd):add fs []=fs:=by unfold add;split<;>simp
theorem conv_held {w:World} {B g:Nat} {cs:Array Value} {wide long:Bool} {held:List UInt8} {fs:List Hd.Fd} {T:TypeId} (hB:w.heap[B]?=some (.cells cs T)) (hd:Dc cs g wide long held fs) (k cap:Nat) (hk:k≤held.length) :
  (convert 22 9 (.slice (some ⟨B,3,none⟩) k cap)).run Tryz.prog w=.ok (.string (txt (held.take k))) w:=by
 have hl:(nums (held.take k)).length=k:=by simp [nums];omega
 rw [← txt_nums]
 refine run_convert_bytes_arg (P:=Tryz.prog) w 22 5 Tryz.underlying22 Tryz.underlying5 B 3 k cap (nums (held.take k)) hl (fun i hi=>?_) 9 Tryz.underlying9
 have hi2:i<held.length:=by omega
 rw [cell_of_row _ _ _ _ _ _ hB,hd.hv i held[i] (List.getElem?_eq_getElem hi2)]
 simp [nums,List.getD,hi,hi2]

set_option maxHeartbeats 2000000 in
set_option maxRecDepth 20000 in
theorem endW (w:World) (B g:Nat) (wide long:Bool) (held:List UInt8) (fs:List Hd.Fd) (h:Dw w B g wide long held fs) (hT:Lib.Utf8Tabs 0 1 w) :
  Calls Tryz.prog 135 #[.pointer (some ⟨B,0,none⟩)] w fun e w'=>e=.returned (.tuple #[]) ∧
   Dw w' B g wide false [] (add fs (Hd.endOf (gd wide) ⟨true,false,long,held⟩))∧Near B w w':=by
 have hBw:=h.lt
 have HW:=hide h
 obtain ⟨cs,hB,hd⟩:=h
 have e0:w.cell? ⟨B,0,none⟩=some (.bool wide):=by rw [cell_of_row _ _ _ _ _ _ hB];exact hd.c0
 have e1:w.cell? ⟨B,1,none⟩=some (.bool long):=by rw [cell_of_row _ _ _ _ _ _ hB];exact hd.c1
 have e2:w.cell? ⟨B,307,none⟩=some (.int .i64 held.length):=by rw [cell_of_row _ _ _ _ _ _ hB];exact hd.cz
 have hl:=hd.hl
 have HB:=hide hB
 have HD:=hide hd
 have HS:=hide (size' wide)
 have hk4:=tailN_le wide
 by_cases h0:held=[]∧long=false
 ·obtain ⟨rfl,rfl⟩:=h0
  rw [show Hd.endOf (gd wide) ⟨true,false,false,[]⟩=[] from rfl,add_nil]
  clear hB hd
  go_enter Tryz.func135,Tryz.ntmps135
  go_wp2
  refine bodyPost_ret (v:=.tuple #[]) (by simp [results,Tryz.results135,go_sem]) rfl ⟨rfl,uh HW,Near.refl _ _⟩
 ·cases long
  ·have hz:¬ held.length=0:=fun e=>h0 ⟨List.eq_nil_of_length_eq_zero e,rfl⟩
   have d0:((held.length:Int) == 0)=false:=beq_eq_false_iff_ne.2 (by omega)
   by_cases hc:held.length≤tailN wide
   ·have hE:Hd.endOf (gd wide) ⟨true,false,false,held⟩=[⟨3,[]⟩]:=by
     simp only [Hd.endOf]
     rw [if_neg (by simp),if_neg (by simp),if_neg (by simpa using h0),if_neg (by simp),if_pos (show held.length≤(gd wide).k from hc)]
    rw [hE]
    have C:Hid (∀ v,Dw v B g wide false held fs→Calls Tryz.prog 137 #[.pointer (some ⟨B,0,none⟩),.agg #[.int .i64 3,.string ⟨#[]⟩]] v fun e w'=>e=.returned (.tuple #[])∧Dw w' B g wide false [] (if fs.length<400 then fs ++ [⟨3,[]⟩] else fs)∧Near B v w'):=hide fun v hv=>tellW v B g wide false held fs ⟨3,[]⟩ hv
    generalize tailN wide=k at *
    have d1:(held.length:Int) - (k:Int)<1:=by omega
    clear hB hd hE h0
    go_enter Tryz.func135,Tryz.ntmps135
    go_wp2_with fail
    go_quiet (first
     | (go_at_call 131;refine Calls.quiet_of_same (uh HS _)))
    go_wp2_with fail
    refine (uh C (w.drewN nq) ((uh HW).same rfl)).mono ?_
    rintro e w2 ⟨rfl,hw2,hn2⟩
    have HN:Hid (Near B w w2):=hide ⟨hn2.os,hn2.tape,hn2.output,hn2.size,hn2.block⟩
    clear hn2
    go_wp2
    refine bodyPost_end (v:=.tuple #[]) (by simp [results,Tryz.results135,go_sem]) rfl ⟨rfl,hw2,uh HN⟩
   ·have hkl:tailN wide<held.length:=by omega
    obtain ⟨m,hm⟩:∃ m:Nat,held.length=m+tailN wide:=⟨held.length - tailN wide,by omega⟩
    have hG:Hid (∀ v,Lib.Utf8Tabs 0 1 v→Calls Tryz.prog 141 #[.string (txt held),.bool wide] v fun e w'=>e=.returned (.bool ((gd wide).good held))∧Below v.heap.size v w') :=
     hide fun v hv=>implGoodAll (txt held) wide v (by rw [txt_size];unfold maxLen;omega) hv
    have hE:Hd.endOf (gd wide) ⟨true,false,false,held⟩=(if (gd wide).good held then [⟨1,held.take m⟩] else [⟨2,[]⟩]):=by
     simp only [Hd.endOf]
     rw [if_neg (by simp),if_neg (by simp),if_neg (by simpa using h0),if_neg (by simp),if_neg (show ¬ held.length≤(gd wide).k from hc),show held.length - (gd wide).k=m from by show held.length - tailN wide=m;omega]
     cases (gd wide).good held<;>rfl
    rw [hE]
    clear hE
    have HT:=hide hT
    have HB':=HB
    have HG:=hide fun (v:World) (hv:v.heap[B]?=w.heap[B]?)=>show (convert 22 9 (.slice (some ⟨B,3,none⟩) held.length 304)).run Tryz.prog v=.ok (.string (txt held)) v from by
     have:=conv_held (hv.trans hB) hd held.length 304 (Nat.le_refl _)
     rw [List.take_length] at this
     exact this
    have HM:=hide fun (v:World) (hv:v.heap[B]?=w.heap[B]?)=>show (convert 22 9 (.slice (some ⟨B,3,none⟩) m 304)).run Tryz.prog v=.ok (.string (txt (held.take m))) v from
     conv_held (hv.trans hB) hd m 304 (by omega)
    generalize tailN wide=k at *
    have d1:¬ ((held.length:Int) - (k:Int)<1):=by omega
    have d2:(held.length:Int) - (k:Int)=(m:Int):=by omega
    have d3:(m:Int)≤304:=by omega
    have d4:(held.length:Int)≤304:=by omega
    have d5:¬ ((m:Int)<1):=by omega
    have C1:Hid (∀ v,Dw v B g wide false held fs→Calls Tryz.prog 137 #[.pointer (some ⟨B,0,none⟩),.agg #[.int .i64 1,.string (txt (held.take m))]] v fun e w'=>e=.returned (.tuple #[])∧Dw w' B g wide false [] (if fs.length<400 then fs ++ [⟨1,held.take m⟩] else fs)∧Near B v w'):=hide fun v hv=>tellW v B g wide false held fs ⟨1,held.take m⟩ hv
    have C2:Hid (∀ v,Dw v B g wide false held fs→Calls Tryz.prog 137 #[.pointer (some ⟨B,0,none⟩),.agg #[.int .i64 2,.string ⟨#[]⟩]] v fun e w'=>e=.returned (.tuple #[])∧Dw w' B g wide false [] (if fs.length<400 then fs ++ [⟨2,[]⟩] else fs)∧Near B v w'):=hide fun v hv=>tellW v B g wide false held fs ⟨2,[]⟩ hv
    clear hB hd h0 hT hc hm
    go_enter Tryz.func135,Tryz.ntmps135
    go_wp2_with fail
    go_quiet (first
     | (go_at_call 131;refine Calls.quiet_of_same (uh HS _)))
    go_wp2_with fail
    refine gen_world (fun v=>v.heap[B]?=w.heap[B]?∧B<v.heap.size∧Near B w v∧Lib.Utf8Tabs 0 1 v.drew) ⟨rfl,hBw,⟨rfl,rfl,rfl,Nat.le_refl _,fun _ _ _=>rfl⟩,Utf8Tabs_below (uh HT) ⟨rfl,rfl,rfl,Nat.le_refl _,fun _ _=>rfl⟩⟩ ?_
    have C1':=C1
    have C2':=C2
    clear e0 e1 e2 C1 C2 HT HB HW hBw
    rintro v ⟨hvB,hBv,hnv,hTv⟩
    have hBv2:v.heap[B]?=some (.cells cs 154):=hvB.trans (uh HB')
    have e0:v.cell? ⟨B,0,none⟩=some (.bool wide):=by rw [cell_of_row _ _ _ _ _ _ hBv2];exact (uh HD).c0
    have e2:v.cell? ⟨B,307,none⟩=some (.int .i64 held.length):=by rw [cell_of_row _ _ _ _ _ _ hBv2];exact (uh HD).cz
    have hcv1:=uh HG v hvB
    have hcv2:=uh HG v.drew hvB
    have HTv:=hide hTv
    have HNv:=hide hnv
    have HBv:=hide hBv2
    clear hTv hnv hBv2 hvB
    have KS:Hid (∀ u,u.heap[B]?=v.heap[B]?→u.cell? ⟨B,0,none⟩=some (.bool wide)∧u.cell? ⟨B,307,none⟩=some (.int .i64 held.length) ∧
      (convert 22 9 (.slice (some ⟨B,3,none⟩) held.length 304)).run Tryz.prog u=.ok (.string (txt held)) u):=by
     refine hide fun u hu=>?_
     have hu2:=hu.trans (uh HBv)
     exact ⟨by rw [cell_of_row _ _ _ _ _ _ hu2];exact (uh HD).c0,by rw [cell_of_row _ _ _ _ _ _ hu2];exact (uh HD).cz,uh HG u (hu2.trans (uh HB').symm)⟩
    have hS1:=uh KS v.drew rfl
    clear hcv1 hcv2 e0 e2
    cases hgo:(gd wide).good held
    all_goals
     rw [hgo] at hG
     go_region_held (fun u=>u.cell? ⟨B,0,none⟩=some (.bool wide)∧u.cell? ⟨B,307,none⟩=some (.int .i64 held.length) ∧
       (convert 22 9 (.slice (some ⟨B,3,none⟩) held.length 304)).run Tryz.prog u=.ok (.string (txt held)) u) (first | exact hS1 | assumption) (first
      | (go_at_call 141;refine (uh hG _ (uh HTv)).mono ?_;rintro e w2 ⟨rfl,hb2⟩;have hS2:=uh KS w2 (hb2.block B hBv)))
    case' false=>have HC:=C2'
    case' true=>have HC:=C1'
    all_goals
     have hw2B:w2.heap[B]?=v.heap[B]?:=hb2.block B hBv
     have hDw2:Dw w2 B g wide false held fs:=⟨cs,hw2B.trans (uh HBv),uh HD⟩
     have HN2:Hid (Near B w w2):=hide ((uh HNv).drew.of_below hb2)
     have hcv3:=uh HM w2 (hw2B.trans ((uh HBv).trans (uh HB').symm))
     clear hb2 hS1 hS2 hw2B
     go_wp2_with fail
     refine (uh HC w2 hDw2).mono ?_
     rintro e w3 ⟨rfl,hw3,hn3⟩
     have HN3:=hide ((uh HN2).trans hn3)
     have HW3:=hide hw3
     clear hn3 hw3
     go_wp2
     all_goals refine bodyPost_end (v:=.tuple #[]) (by simp [results,Tryz.results135,go_sem]) rfl ⟨rfl,uh HW3,uh HN3⟩
  ·have hE:Hd.endOf (gd wide) ⟨true,false,true,held⟩=[⟨5,[]⟩]:=by
    simp only [Hd.endOf]
    rw [if_neg (by simp),if_neg (by simp),if_neg (by simp),if_pos trivial]
   rw [hE]
   have C:Hid (∀ v,Dw v B g wide true held fs→Calls Tryz.prog 137 #[.pointer (some ⟨B,0,none⟩),.agg #[.int .i64 5,.string ⟨#[]⟩]] v fun e w'=>e=.returned (.tuple #[])∧Dw w' B g wide false [] (if fs.length<400 then fs ++ [⟨5,[]⟩] else fs)∧Near B v w'):=hide fun v hv=>tellW v B g wide true held fs ⟨5,[]⟩ hv
   generalize tailN wide=k at *
   clear hB hd hE h0
   by_cases hz:held.length=0
   case' pos=>have d0:((held.length:Int) == 0)=true:=beq_iff_eq.2 (by omega)
   case' neg=>have d0:((held.length:Int) == 0)=false:=beq_eq_false_iff_ne.2 (by omega)
   all_goals
    go_enter Tryz.func135,Tryz.ntmps135
    go_wp2_with fail
    go_quiet (first
     | (go_at_call 131;refine Calls.quiet_of_same (uh HS _)))
    go_wp2_with fail
    refine (uh C (w.drewN nq) ((uh HW).same rfl)).mono ?_
    rintro e w2 ⟨rfl,hw2,hn2⟩
    have HN:Hid (Near B w w2):=hide ⟨hn2.os,hn2.tape,hn2.output,hn2.size,hn2.block⟩
    clear hn2
    go_wp2
    refine bodyPost_end (v:=.tuple #[]) (by simp [results,Tryz.results135,go_sem]) rfl ⟨rfl,hw2,uh HN⟩
theorem take_add (fs x:List Hd.Fd) (hx:x.length≤1):(fs ++ x).take 400=add (fs.take 400) x:=Hd.take_more 400 fs x hx
theorem fnd_le (g:Hd.Gd) (s:Hd.St) (c:UInt8):(Hd.fnd g s c).length≤1:=by
 unfold Hd.fnd
 split
 ·exact Hd.endOf_le g s
 ·simp
def Ov (w:World) (B g a:Nat) (wide:Bool) (s0:Hd.St) (t:ByteArray) (i:Nat) (inn esc:Bool) (wr:World):Prop :=
 ∃ long held,Hd.run a s0 (t.data.toList.take i)=⟨inn,esc,long,held⟩∧Dw wr B g wide long held ((Hd.finds (gd wide) a s0 (t.data.toList.take i)).take 400)∧Near B w wr
theorem Ov.next {w wr':World} {B g a:Nat} {wide:Bool} {s0:Hd.St} {t:ByteArray} {i:Nat} {s s':Hd.St} (hlt:i<t.size)
  (hs:Hd.run a s0 (t.data.toList.take i)=s) (hn:Hd.nxt a s t[i]=s')
  (hd:Dw wr' B g wide s'.long s'.held (add ((Hd.finds (gd wide) a s0 (t.data.toList.take i)).take 400) (Hd.fnd (gd wide) s t[i]))) (hr:Near B w wr'):Ov w B g a wide s0 t (i+1) s'.inn s'.esc wr':=by
 refine ⟨s'.long,s'.held,?_,?_,hr⟩
 ·rw [take_snoc t i hlt,Hd.run_snoc,hs,hn]
 ·rw [take_snoc t i hlt,Hd.finds_snoc,take_add _ _ (fnd_le _ _ _),hs]
  exact hd
theorem nxt_flag (a:Nat) (s:Hd.St):Hd.nxt a s 0x7e=⟨true,false,false,[]⟩:=by simp [Hd.nxt]
theorem nxt_out (a:Nat) (e l:Bool) (h:List UInt8) (c:UInt8) (h1:c≠0x7e):Hd.nxt a ⟨false,e,l,h⟩ c=⟨false,e,l,h⟩:=by simp [Hd.nxt,h1]
theorem nxt_map (a:Nat) (s:Hd.St) (c:UInt8) (h1:c≠0x7e) (hm:Hd.mapped a c=true):Hd.nxt a s c=s:=by simp [Hd.nxt,h1,hm]
theorem map_7d (a:Nat):Hd.mapped a 0x7d=false:=by simp [Hd.mapped]
theorem nxt_esc (a:Nat) (l:Bool) (h:List UInt8):Hd.nxt a ⟨true,false,l,h⟩ 0x7d=⟨true,true,l,h⟩:=by simp [Hd.nxt,map_7d]
theorem nxt_put (a:Nat) (l:Bool) (h:List UInt8) (c:UInt8) (h1:c≠0x7e) (hm:Hd.mapped a c=false) (h2:c≠0x7d) (hl:h.length≤304) :
  Hd.nxt a ⟨true,false,l,h⟩ c=⟨true,false,if h.length=304 then true else l,if h.length=304 then h else h ++ [c]⟩:=by
 by_cases e:h.length=304
 ·simp [Hd.nxt,h1,hm,h2,Hd.put,e]
 ·simp [Hd.nxt,h1,hm,h2,Hd.put,e,show ¬ 304≤h.length by omega]
theorem nxt_put2 (a:Nat) (l:Bool) (h:List UInt8) (c:UInt8) (h1:c≠0x7e) (hm:Hd.mapped a c=false) (hl:h.length≤304) :
  Hd.nxt a ⟨true,true,l,h⟩ c=⟨true,false,if h.length=304 then true else l,if h.length=304 then h else h ++ [c ^^^ 0x20]⟩:=by
 by_cases e:h.length=304
 ·simp [Hd.nxt,h1,hm,Hd.put,e]
 ·simp [Hd.nxt,h1,hm,Hd.put,e,show ¬ 304≤h.length by omega]
theorem fnd_no (g:Hd.Gd) (s:Hd.St) (c:UInt8) (h:c≠0x7e):Hd.fnd g s c=[]:=by simp [Hd.fnd,h]
theorem then_goto {K:Act→World→Prop} {Q:Exit→Act→World→Prop} {l:Nat} {ac:Act} {wr:World}:Exit.then K Q (.goto l) ac wr=Q (.goto l) ac wr:=rfl
theorem block_goto {n:Nat} {Q:Exit→Act→World→Prop} {l:Nat} {ac:Act} {wr:World}:Exit.inBlock n Q (.goto l) ac wr=Q (.goto l) ac wr:=rfl
theorem jto {JJ:Nat→Act→World→Prop} {Q QQ:Exit→Act→World→Prop} {l:Nat} {ac:Act} {wr:World} (hQ:jumps JJ Q=QQ) (h:JJ l ac wr):QQ (.goto l) ac wr:=by subst hQ;exact h
theorem jret {JJ:Nat→Act→World→Prop} {Q QQ:Exit→Act→World→Prop} {ac:Act} {wr:World} (hQ:jumps JJ Q=QQ) (h:Q .ret ac wr):QQ .ret ac wr:=by subst hQ;exact h
def J (w:World) (B g a:Nat) (wide:Bool) (s0:Hd.St) (t:ByteArray) (i0 e0:Bool) (l:Nat) (ac:Act) (wr:World):Prop :=
 ∃ (i:Nat) (x:Int) (u4 u5 u6 u7 u8 u9 u11 u12 u13 u14 u15 u16 u17 u18 u19 u20 u21 u22 u23 u24 u25 u26 u27 u28 u29 u30 u31 u32 u33 u34 u35 u36 u37 u38 u39 u40 u41 u42 u43 u44 u45 u46 u47 u48 u49 u50 u51 u52 u53 u54 u55 u56 u57 u58 u59 u60 u61 u62 u63 u64 u65 u66 u67 u68 u69 u70 u71 u72 u73 u74 u75 u76 u77:Value),ac={ tmps:=#[.pointer (some ⟨B,0,none⟩),.string t,.bool i0,.bool e0,u4,u5,u6,u7,u8,u9,.int .i64 x,u11,u12,u13,u14,u15,u16,u17,u18,u19,u20,u21,u22,u23,u24,u25,u26,u27,u28,u29,u30,u31,u32,u33,u34,u35,u36,u37,u38,u39,u40,u41,u42,u43,u44,u45,u46,u47,u48,u49,u50,u51,u52,u53,u54,u55,u56,u57,u58,u59,u60,u61,u62,u63,u64,u65,u66,u67,u68,u69,u70,u71,u72,u73,u74,u75,u76,u77],defers:=[] }∧x=(i:Int) - 1∧i≤t.size∧((l=0∧Ov w B g a wide s0 t i true true wr)∨(l=1∧Ov w B g a wide s0 t i true false wr)∨(l=2∧Ov w B g a wide s0 t i false false wr))
def mu (t:ByteArray) (ac:Act) (_:World):Nat:=t.size - (intOf (ac.tmps.getD 10 undef)+1).toNat
set_option maxHeartbeats 4000000 in
set_option maxRecDepth 100000 in
theorem goOver (w:World) (B g a:Nat) (wide:Bool) (s0:Hd.St) (t:ByteArray) (ht:t.size≤8000)
  (hw:Dw w B g wide s0.long s0.held []) (hg:w.cell? ⟨g,0,none⟩=some (.int .i64 a)) (hgB:g≠B) (hgw:g<w.heap.size) (ha:a<4294967296) (hr:Hd.Right s0) (hT:∀ wr,Near B w wr→Lib.Utf8Tabs 0 1 wr) :
  Calls Tryz.prog 118 #[.pointer (some ⟨B,0,none⟩),.string t,.bool s0.inn,.bool s0.esc] w fun e w' =>
   e=.returned (.tuple #[.bool (Hd.run a s0 t.data.toList).inn,.bool (Hd.run a s0 t.data.toList).esc]) ∧
   Dw w' B g wide (Hd.run a s0 t.data.toList).long (Hd.run a s0 t.data.toList).held ((Hd.finds (gd wide) a s0 t.data.toList).take 400)∧Near B w w':=by
 have hBw:=hw.lt
 have HR:Hid (∀ i long held,Hd.run a s0 (t.data.toList.take i)=⟨false,false,long,held⟩→long=false∧held=[]):=by
  refine hide fun i long held h=>?_
  have:=Hd.run_right a (t.data.toList.take i) s0 hr
  rw [h] at this
  have k:=this.2 rfl
  exact ⟨k.2.1,k.2.2⟩
 have HT:=hide hT
 have HG:Hid (∀ wr,Near B w wr→wr.cell? ⟨g,0,none⟩=some (.int .i64 a)):=by
  refine hide fun wr hn=>?_
  rw [World.cell?_of_block (w:=w) (hn.block g (by omega) (by omega))]
  exact hg
 have HE:Hid (∀ wr inn esc,Ov w B g a wide s0 t t.size inn esc wr→(Hd.run a s0 t.data.toList).inn=inn∧(Hd.run a s0 t.data.toList).esc=esc ∧
   Dw wr B g wide (Hd.run a s0 t.data.toList).long (Hd.run a s0 t.data.toList).held ((Hd.finds (gd wide) a s0 t.data.toList).take 400)∧Near B w wr):=by
  refine hide fun wr inn esc ⟨long,held,h1,h2,h3⟩=>?_
  have e:t.data.toList.take t.size=t.data.toList:=List.take_of_length_le (by rw [← Lib.size_eq];exact Nat.le_refl _)
  rw [e] at h1 h2
  rw [h1]
  exact ⟨rfl,rfl,h2,h3⟩
 have H0:Hid (Ov w B g a wide s0 t 0 s0.inn s0.esc w):=hide ⟨s0.long,s0.held,rfl,hw,Near.refl _ _⟩
 have HI:Hid (s0.esc=true→s0.inn=true):=hide fun h=>by
  cases hx:s0.inn
  ·have:=(hr.2 hx).1;rw [this] at h;cases h
  ·rfl
 clear hw hg hr hT
 obtain ⟨R,hR⟩:∃ R,Hd.run a s0 t.data.toList=R:=⟨_,rfl⟩
 rw [hR] at HE
 rw [hR]
 obtain ⟨rin,resc,rlong,rheld⟩:=R
 clear hR
 generalize (Hd.finds (gd wide) a s0 t.data.toList).take 400=F at *
 generalize s0.inn=i0 at *
 generalize s0.esc=e0 at *
 go_enter Tryz.func118,Tryz.ntmps118
 go_wp2
 refine wp_jumps (J w B g a wide s0 t i0 e0) (mu t) ?_ ?_
 ·rintro l ac wr ⟨i,x,u4,u5,u6,u7,u8,u9,u11,u12,u13,u14,u15,u16,u17,u18,u19,u20,u21,u22,u23,u24,u25,u26,u27,u28,u29,u30,u31,u32,u33,u34,u35,u36,u37,u38,u39,u40,u41,u42,u43,u44,u45,u46,u47,u48,u49,u50,u51,u52,u53,u54,u55,u56,u57,u58,u59,u60,u61,u62,u63,u64,u65,u66,u67,u68,u69,u70,u71,u72,u73,u74,u75,u76,u77,rfl,rfl,hi,ho⟩
  have hmu:mu t { tmps:=#[.pointer (some ⟨B,0,none⟩),.string t,.bool i0,.bool e0,u4,u5,u6,u7,u8,u9,.int .i64 ((i:Int) - 1),u11,u12,u13,u14,u15,u16,u17,u18,u19,u20,u21,u22,u23,u24,u25,u26,u27,u28,u29,u30,u31,u32,u33,u34,u35,u36,u37,u38,u39,u40,u41,u42,u43,u44,u45,u46,u47,u48,u49,u50,u51,u52,u53,u54,u55,u56,u57,u58,u59,u60,u61,u62,u63,u64,u65,u66,u67,u68,u69,u70,u71,u72,u73,u74,u75,u76,u77],defers:=[] } wr=t.size - i:=by
   show t.size - ((i:Int) - 1+1).toNat=t.size - i
   omega
  rw [hmu]
  clear hmu
  have d2:((i:Int) - 1+1)=(i:Int):=by omega
  rcases ho with ⟨rfl,ho⟩ | ⟨rfl,ho⟩ | ⟨rfl,ho⟩
  ·refine ⟨_,rfl,?_⟩
   go_hide hQ
   by_cases hlt:i<t.size
   ·obtain ⟨long,held,hrun,hdw,hnr⟩:=ho
    have d3:((i:Int) == (t.size:Int))=false:=beq_eq_false_iff_ne.2 (by omega)
    have hnx:=hide fun (s':Hd.St) (wr':World)=>Ov.next (w:=w) (wr':=wr') (s':=s') (B:=B) (g:=g) (wide:=wide) hlt hrun
    have hl304:held.length≤304:=by obtain ⟨_,_,k⟩:=hdw;exact k.hl
    have c2:wr.cell? ⟨B,2,none⟩=some (.func (.func 134) #[] #[.pointer (some ⟨g,0,none⟩)]):=by
     obtain ⟨cs,k1,k2⟩:=hdw
     rw [cell_of_row _ _ _ _ _ _ k1];exact k2.c2
    have CM:=hide (implMapped a t[i] g wr ha (uh HG wr hnr))
    have HDw:=hide hdw
    have HN:=hide hnr
    by_cases e1:t[i]=0x7e
    ·have d4:((t[i].toNat:Int) == 126)=true:=by rw [e1];rfl
     have C:Hid (Calls Tryz.prog 137 #[.pointer (some ⟨B,0,none⟩),.agg #[.int .i64 4,.string ⟨#[]⟩]] wr fun e w'=>e=.returned (.tuple #[])∧Dw w' B g wide false [] (add ((Hd.finds (gd wide) a s0 (t.data.toList.take i)).take 400) [⟨4,[]⟩])∧Near B wr w'):=hide (tellW wr B g wide long held _ ⟨4,[]⟩ hdw)
     have HX:=hide fun wr' (h1:Dw wr' B g wide false [] (add ((Hd.finds (gd wide) a s0 (t.data.toList.take i)).take 400) [⟨4,[]⟩])) (h2:Near B w wr')=>uh hnx ⟨true,false,false,[]⟩ wr' (by rw [e1];exact nxt_flag a _) (by rw [e1];exact h1) h2
     clear hdw hnr hrun hnx e1
     go_wp2_with fail
     refine (uh C).mono ?_
     rintro e w2 ⟨rfl,hd2,hn2⟩
     have HO:=hide (uh HX w2 hd2 ((uh HN).trans hn2))
     clear hd2 hn2
     go_wp2
     go_step3
     repeat first | rw [then_goto] | rw [block_goto]
     refine jto hQ ⟨⟨i+1,(i:Int),_,_,_,_,_,_,_,_,_,_,_,_,_,_,_,_,_,_,_,_,_,_,_,_,_,_,_,_,_,_,_,_,_,_,_,_,_,_,_,_,_,_,_,_,_,_,_,_,_,_,_,_,_,_,_,_,_,_,_,_,_,_,_,_,_,_,_,_,_,_,_,_,_,rfl,by omega,by omega,Or.inr (Or.inl ⟨rfl,uh HO⟩)⟩,?_⟩
     show t.size - ((i:Int)+1).toNat<t.size - i
     omega
    ·have d4:((t[i].toNat:Int) == 126)=false:=u8_ne e1
     cases hm:Hd.mapped a t[i]
     ·have C:=hide (putW wr B g wide long held _ (t[i] ^^^ 0x20) hdw)
      have HX:=hide fun wr' (h1:Dw wr' B g wide (if held.length=304 then true else long) (if held.length=304 then held else held ++ [t[i] ^^^ 0x20]) ((Hd.finds (gd wide) a s0 (t.data.toList.take i)).take 400)) (h2:Near B w wr')=>uh hnx ⟨true,false,if held.length=304 then true else long,if held.length=304 then held else held ++ [t[i] ^^^ 0x20]⟩ wr' (nxt_put2 a long held t[i] e1 hm hl304) (by rw [fnd_no _ _ _ e1,add_nil];exact h1) h2
      have hxo:=xor20 t[i]
      rw [hm] at CM
      clear hdw hnr hrun hnx e1 hm
      go_wp2_with (first
       | (go_at_call 134;refine (uh CM).mono ?_;rintro e w1 ⟨rfl,hww⟩;replace hww:=hww.symm;subst hww))
      refine (uh C).mono ?_
      rintro e w2 ⟨rfl,hd2,hn2⟩
      have HO:=hide (uh HX w2 hd2 ((uh HN).trans hn2))
      clear hd2 hn2
      go_wp2
      go_step3
      repeat first | rw [then_goto] | rw [block_goto]
      refine jto hQ ⟨⟨i+1,(i:Int),_,_,_,_,_,_,_,_,_,_,_,_,_,_,_,_,_,_,_,_,_,_,_,_,_,_,_,_,_,_,_,_,_,_,_,_,_,_,_,_,_,_,_,_,_,_,_,_,_,_,_,_,_,_,_,_,_,_,_,_,_,_,_,_,_,_,_,_,_,_,_,_,_,rfl,by omega,by omega,Or.inr (Or.inl ⟨rfl,uh HO⟩)⟩,?_⟩
      show t.size - ((i:Int)+1).toNat<t.size - i
      omega
     ·have HO:=hide (uh hnx ⟨true,true,long,held⟩ wr (nxt_map a _ _ e1 hm) (by rw [fnd_no _ _ _ e1,add_nil];exact hdw) hnr)
      rw [hm] at CM
      clear hdw hnr hrun hnx e1 hm
      go_wp2_with (first
       | (go_at_call 134;refine (uh CM).mono ?_;rintro e w1 ⟨rfl,hww⟩;replace hww:=hww.symm;subst hww))
      go_step3
      repeat first | rw [then_goto] | rw [block_goto]
      refine jto hQ ⟨⟨i+1,(i:Int),_,_,_,_,_,_,_,_,_,_,_,_,_,_,_,_,_,_,_,_,_,_,_,_,_,_,_,_,_,_,_,_,_,_,_,_,_,_,_,_,_,_,_,_,_,_,_,_,_,_,_,_,_,_,_,_,_,_,_,_,_,_,_,_,_,_,_,_,_,_,_,_,_,rfl,by omega,by omega,Or.inl ⟨rfl,uh HO⟩⟩,?_⟩
      show t.size - ((i:Int)+1).toNat<t.size - i
      omega
   ·obtain rfl:i=t.size:=by omega
    have d3:((t.size:Int) == (t.size:Int))=true:=beq_self_eq_true _
    obtain ⟨rfl,rfl,h3,h4⟩:=uh HE wr _ _ ho
    have H3:=hide h3
    have H4:=hide h4
    clear ho h3 h4
    go_wp2
    refine jret hQ ?_
    refine bodyPost_ret (v:=.tuple #[.bool true,.bool true]) (by simp [results,Tryz.results118,go_sem]) rfl ⟨rfl,uh H3,uh H4⟩
  ·refine ⟨_,rfl,?_⟩
   go_hide hQ
   by_cases hlt:i<t.size
   ·obtain ⟨long,held,hrun,hdw,hnr⟩:=ho
    have d3:((i:Int) == (t.size:Int))=false:=beq_eq_false_iff_ne.2 (by omega)
    have hnx:=hide fun (s':Hd.St) (wr':World)=>Ov.next (w:=w) (wr':=wr') (s':=s') (B:=B) (g:=g) (wide:=wide) hlt hrun
    have hl304:held.length≤304:=by obtain ⟨_,_,k⟩:=hdw;exact k.hl
    have c2:wr.cell? ⟨B,2,none⟩=some (.func (.func 134) #[] #[.pointer (some ⟨g,0,none⟩)]):=by
     obtain ⟨cs,k1,k2⟩:=hdw
     rw [cell_of_row _ _ _ _ _ _ k1];exact k2.c2
    have CM:=hide (implMapped a t[i] g wr ha (uh HG wr hnr))
    have HDw:=hide hdw
    have HN:=hide hnr
    by_cases e1:t[i]=0x7e
    ·have d4:((t[i].toNat:Int) == 126)=true:=by rw [e1];rfl
     have C:=hide (endW wr B g wide long held _ hdw (uh HT wr hnr))
     have HX:=hide fun wr' (h1:Dw wr' B g wide false [] (add ((Hd.finds (gd wide) a s0 (t.data.toList.take i)).take 400) (Hd.endOf (gd wide) ⟨true,false,long,held⟩))) (h2:Near B w wr')=>uh hnx ⟨true,false,false,[]⟩ wr' (by rw [e1];exact nxt_flag a _) (by rw [e1];exact h1) h2
     clear hdw hnr hrun hnx e1
     go_wp2_with fail
     refine (uh C).mono ?_
     rintro e w2 ⟨rfl,hd2,hn2⟩
     have HO:=hide (uh HX w2 hd2 ((uh HN).trans hn2))
     clear hd2 hn2
     go_wp2
     go_step3
     repeat first | rw [then_goto] | rw [block_goto]
     refine jto hQ ⟨⟨i+1,(i:Int),_,_,_,_,_,_,_,_,_,_,_,_,_,_,_,_,_,_,_,_,_,_,_,_,_,_,_,_,_,_,_,_,_,_,_,_,_,_,_,_,_,_,_,_,_,_,_,_,_,_,_,_,_,_,_,_,_,_,_,_,_,_,_,_,_,_,_,_,_,_,_,_,_,rfl,by omega,by omega,Or.inr (Or.inl ⟨rfl,uh HO⟩)⟩,?_⟩
     show t.size - ((i:Int)+1).toNat<t.size - i
     omega
    ·have d4:((t[i].toNat:Int) == 126)=false:=u8_ne e1
     cases hm:Hd.mapped a t[i]
     ·rw [hm] at CM
      by_cases e2:t[i]=0x7d
      ·have d5:((t[i].toNat:Int) == 125)=true:=by rw [e2];rfl
       have HO:=hide (uh hnx ⟨true,true,long,held⟩ wr (by rw [e2];exact nxt_esc a _ _) (by rw [fnd_no _ _ _ e1,add_nil];exact hdw) hnr)
       clear hdw hnr hrun hnx e1 hm e2
       go_wp2_with (first
        | (go_at_call 134;refine (uh CM).mono ?_;rintro e w1 ⟨rfl,hww⟩;replace hww:=hww.symm;subst hww))
       go_step3
       repeat first | rw [then_goto] | rw [block_goto]
       refine jto hQ ⟨⟨i+1,(i:Int),_,_,_,_,_,_,_,_,_,_,_,_,_,_,_,_,_,_,_,_,_,_,_,_,_,_,_,_,_,_,_,_,_,_,_,_,_,_,_,_,_,_,_,_,_,_,_,_,_,_,_,_,_,_,_,_,_,_,_,_,_,_,_,_,_,_,_,_,_,_,_,_,_,rfl,by omega,by omega,Or.inl ⟨rfl,uh HO⟩⟩,?_⟩
       show t.size - ((i:Int)+1).toNat<t.size - i
       omega
      ·have d5:((t[i].toNat:Int) == 125)=false:=u8_ne e2
       have C:=hide (putW wr B g wide long held _ t[i] hdw)
       have HX:=hide fun wr' (h1:Dw wr' B g wide (if held.length=304 then true else long) (if held.length=304 then held else held ++ [t[i]]) ((Hd.finds (gd wide) a s0 (t.data.toList.take i)).take 400)) (h2:Near B w wr')=>uh hnx ⟨true,false,if held.length=304 then true else long,if held.length=304 then held else held ++ [t[i]]⟩ wr' (nxt_put a long held t[i] e1 hm e2 hl304) (by rw [fnd_no _ _ _ e1,add_nil];exact h1) h2
       clear hdw hnr hrun hnx e1 hm e2
       go_wp2_with (first
        | (go_at_call 134;refine (uh CM).mono ?_;rintro e w1 ⟨rfl,hww⟩;replace hww:=hww.symm;subst hww))
       refine (uh C).mono ?_
       rintro e w2 ⟨rfl,hd2,hn2⟩
       have HO:=hide (uh HX w2 hd2 ((uh HN).trans hn2))
       clear hd2 hn2
       go_wp2
       go_step3
       repeat first | rw [then_goto] | rw [block_goto]
       refine jto hQ ⟨⟨i+1,(i:Int),_,_,_,_,_,_,_,_,_,_,_,_,_,_,_,_,_,_,_,_,_,_,_,_,_,_,_,_,_,_,_,_,_,_,_,_,_,_,_,_,_,_,_,_,_,_,_,_,_,_,_,_,_,_,_,_,_,_,_,_,_,_,_,_,_,_,_,_,_,_,_,_,_,rfl,by omega,by omega,Or.inr (Or.inl ⟨rfl,uh HO⟩)⟩,?_⟩
       show t.size - ((i:Int)+1).toNat<t.size - i
       omega
     ·have HO:=hide (uh hnx ⟨true,false,long,held⟩ wr (nxt_map a _ _ e1 hm) (by rw [fnd_no _ _ _ e1,add_nil];exact hdw) hnr)
      rw [hm] at CM
      clear hdw hnr hrun hnx e1 hm
      go_wp2_with (first
       | (go_at_call 134;refine (uh CM).mono ?_;rintro e w1 ⟨rfl,hww⟩;replace hww:=hww.symm;subst hww))
      go_step3
      repeat first | rw [then_goto] | rw [block_goto]
      refine jto hQ ⟨⟨i+1,(i:Int),_,_,_,_,_,_,_,_,_,_,_,_,_,_,_,_,_,_,_,_,_,_,_,_,_,_,_,_,_,_,_,_,_,_,_,_,_,_,_,_,_,_,_,_,_,_,_,_,_,_,_,_,_,_,_,_,_,_,_,_,_,_,_,_,_,_,_,_,_,_,_,_,_,rfl,by omega,by omega,Or.inr (Or.inl ⟨rfl,uh HO⟩)⟩,?_⟩
      show t.size - ((i:Int)+1).toNat<t.size - i
      omega
   ·obtain rfl:i=t.size:=by omega
    have d3:((t.size:Int) == (t.size:Int))=true:=beq_self_eq_true _
    obtain ⟨rfl,rfl,h3,h4⟩:=uh HE wr _ _ ho
    have H3:=hide h3
    have H4:=hide h4
    clear ho h3 h4
    go_wp2
    refine jret hQ ?_
    refine bodyPost_ret (v:=.tuple #[.bool true,.bool false]) (by simp [results,Tryz.results118,go_sem]) rfl ⟨rfl,uh H3,uh H4⟩
  ·refine ⟨_,rfl,?_⟩
   go_hide hQ
   by_cases hlt:i<t.size
   ·obtain ⟨long,held,hrun,hdw,hnr⟩:=ho
    obtain ⟨rfl,rfl⟩:=uh HR i long held hrun
    have d3:((i:Int) == (t.size:Int))=false:=beq_eq_false_iff_ne.2 (by omega)
    have hnx:=hide fun (s':Hd.St) (wr':World)=>Ov.next (w:=w) (wr':=wr') (s':=s') (B:=B) (g:=g) (wide:=wide) hlt hrun
    by_cases e1:t[i]=0x7e
    ·have d4:((t[i].toNat:Int) == 126)=true:=by rw [e1];rfl
     have HO:=hide (uh hnx ⟨true,false,false,[]⟩ wr (by rw [e1];exact nxt_flag a _) (by rw [e1,show Hd.fnd (gd wide) ⟨false,false,false,[]⟩ 0x7e=[] from rfl,add_nil];exact hdw) hnr)
     clear hdw hnr hrun hnx e1
     go_wp2
     go_step3
     repeat first | rw [then_goto] | rw [block_goto]
     refine jto hQ ⟨⟨i+1,(i:Int),_,_,_,_,_,_,_,_,_,_,_,_,_,_,_,_,_,_,_,_,_,_,_,_,_,_,_,_,_,_,_,_,_,_,_,_,_,_,_,_,_,_,_,_,_,_,_,_,_,_,_,_,_,_,_,_,_,_,_,_,_,_,_,_,_,_,_,_,_,_,_,_,_,rfl,by omega,by omega,Or.inr (Or.inl ⟨rfl,uh HO⟩)⟩,?_⟩
     show t.size - ((i:Int)+1).toNat<t.size - i
     omega
    ·have d4:((t[i].toNat:Int) == 126)=false:=u8_ne e1
     have HO:=hide (uh hnx ⟨false,false,false,[]⟩ wr (nxt_out a _ _ _ _ e1) (by rw [fnd_no _ _ _ e1,add_nil];exact hdw) hnr)
     clear hdw hnr hrun hnx e1
     go_wp2
     go_step3
     repeat first | rw [then_goto] | rw [block_goto]
     refine jto hQ ⟨⟨i+1,(i:Int),_,_,_,_,_,_,_,_,_,_,_,_,_,_,_,_,_,_,_,_,_,_,_,_,_,_,_,_,_,_,_,_,_,_,_,_,_,_,_,_,_,_,_,_,_,_,_,_,_,_,_,_,_,_,_,_,_,_,_,_,_,_,_,_,_,_,_,_,_,_,_,_,_,rfl,by omega,by omega,Or.inr (Or.inr ⟨rfl,uh HO⟩)⟩,?_⟩
     show t.size - ((i:Int)+1).toNat<t.size - i
     omega
   ·obtain rfl:i=t.size:=by omega
    have d3:((t.size:Int) == (t.size:Int))=true:=beq_self_eq_true _
    obtain ⟨rfl,rfl,h3,h4⟩:=uh HE wr _ _ ho
    have H3:=hide h3
    have H4:=hide h4
    clear ho h3 h4
    go_wp2
    refine jret hQ ?_
    refine bodyPost_ret (v:=.tuple #[.bool false,.bool false]) (by simp [results,Tryz.results118,go_sem]) rfl ⟨rfl,uh H3,uh H4⟩
 ·have hmu0:True:=trivial
  cases e0
  ·cases i0
   ·go_hide hQ
    by_cases hlt:0<t.size
    ·obtain ⟨long,held,hrun,hdw,hnr⟩:=uh H0
     obtain ⟨rfl,rfl⟩:=uh HR 0 long held hrun
     have d3:((0:Int) == (t.size:Int))=false:=beq_eq_false_iff_ne.2 (by omega)
     have hnx:=hide fun (s':Hd.St) (wr':World)=>Ov.next (w:=w) (wr':=wr') (s':=s') (B:=B) (g:=g) (wide:=wide) hlt hrun
     by_cases e1:t[0]=0x7e
     ·have d4:((t[0].toNat:Int) == 126)=true:=by rw [e1];rfl
      have HO:=hide (uh hnx ⟨true,false,false,[]⟩ w (by rw [e1];exact nxt_flag a _) (by rw [e1,show Hd.fnd (gd wide) ⟨false,false,false,[]⟩ 0x7e=[] from rfl,add_nil];exact hdw) hnr)
      clear hdw hnr hrun hnx e1
      go_wp2
      go_step3
      go_wp2
      go_step3
      repeat first | rw [then_goto] | rw [block_goto]
      exact jto hQ ⟨0+1,0,_,_,_,_,_,_,_,_,_,_,_,_,_,_,_,_,_,_,_,_,_,_,_,_,_,_,_,_,_,_,_,_,_,_,_,_,_,_,_,_,_,_,_,_,_,_,_,_,_,_,_,_,_,_,_,_,_,_,_,_,_,_,_,_,_,_,_,_,_,_,_,_,_,rfl,by omega,by omega,Or.inr (Or.inl ⟨rfl,uh HO⟩)⟩
     ·have d4:((t[0].toNat:Int) == 126)=false:=u8_ne e1
      have HO:=hide (uh hnx ⟨false,false,false,[]⟩ w (nxt_out a _ _ _ _ e1) (by rw [fnd_no _ _ _ e1,add_nil];exact hdw) hnr)
      clear hdw hnr hrun hnx e1
      go_wp2
      go_step3
      go_wp2
      go_step3
      repeat first | rw [then_goto] | rw [block_goto]
      exact jto hQ ⟨0+1,0,_,_,_,_,_,_,_,_,_,_,_,_,_,_,_,_,_,_,_,_,_,_,_,_,_,_,_,_,_,_,_,_,_,_,_,_,_,_,_,_,_,_,_,_,_,_,_,_,_,_,_,_,_,_,_,_,_,_,_,_,_,_,_,_,_,_,_,_,_,_,_,_,_,rfl,by omega,by omega,Or.inr (Or.inr ⟨rfl,uh HO⟩)⟩
    ·have hz:t.size=0:=by omega
     have d3:((0:Int) == (t.size:Int))=true:=beq_iff_eq.2 (by omega)
     have H0':=uh H0
     rw [show (0:Nat)=t.size from hz.symm] at H0'
     obtain ⟨rfl,rfl,h3,h4⟩:=uh HE w _ _ H0'
     have H3:=hide h3
     have H4:=hide h4
     clear H0' h3 h4
     go_wp2
     go_step3
     go_wp2
     refine jret hQ ?_
     refine bodyPost_ret (v:=.tuple #[.bool false,.bool false]) (by simp [results,Tryz.results118,go_sem]) rfl ⟨rfl,uh H3,uh H4⟩
   ·go_hide hQ
    go_wp2
    go_step3
    repeat first | rw [then_goto] | rw [block_goto]
    exact jto hQ ⟨0,-1,_,_,_,_,_,_,_,_,_,_,_,_,_,_,_,_,_,_,_,_,_,_,_,_,_,_,_,_,_,_,_,_,_,_,_,_,_,_,_,_,_,_,_,_,_,_,_,_,_,_,_,_,_,_,_,_,_,_,_,_,_,_,_,_,_,_,_,_,_,_,_,_,_,rfl,by omega,by omega,Or.inr (Or.inl ⟨rfl,uh H0⟩)⟩
  ·have hi:=uh HI rfl
   subst hi
   go_hide hQ
   go_wp2
   go_step3
   repeat first | rw [then_goto] | rw [block_goto]
   exact jto hQ ⟨0,-1,_,_,_,_,_,_,_,_,_,_,_,_,_,_,_,_,_,_,_,_,_,_,_,_,_,_,_,_,_,_,_,_,_,_,_,_,_,_,_,_,_,_,_,_,_,_,_,_,_,_,_,_,_,_,_,_,_,_,_,_,_,_,_,_,_,_,_,_,_,_,_,_,_,rfl,by omega,by omega,Or.inl ⟨rfl,uh H0⟩⟩
end Go.Proofs.YtkcghhkkepndnaaGreatDoor
