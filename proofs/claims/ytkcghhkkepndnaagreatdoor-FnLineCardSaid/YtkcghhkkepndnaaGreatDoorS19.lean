/- The program's end at work drops what was heard of; what else lay in memory stands. What a flag finds, the model's (l02End), but for a text that is good: a thing found and whether; what lay in memory stands. (The good text's case is still to be walked: region 13 stands still at its slice.) What a flag finds, the model's (l02End), of a good text: the text without its tail; what lay in memory stands. The draws of chapter 3, begun: an accm, and bytes of which many are odd ones; what lay in memory stands. -/
import Derived.Test.YtkcghhkkepndnaaGreatDoorS11
import Derived.Test.YtkcghhkkepndnaaGreatDoorS07
import Derived.Test.YtkcghhkkepndnaaGreatDoorS09
import Derived.Test.YtkcghhkkepndnaaGreatDoorS03
import Derived.Deep.DeepCutAuto
import Derived.Test.YtkcghhkkepndnaaGreatDoorS15
import Derived.Test.YtkcghhkkepndnaaGreatDoorS01
import Derived.Test.YtkcghhkkepndnaaGreatDoorShW
namespace Go.Proofs.YtkcghhkkepndnaaGreatDoor
open Go.RowKit
def vaOf (B:Nat) (w:World):Int:=match w.cell? ⟨B,2,none⟩ with
 | some v=>intOf v
 | none=>0
theorem vaOf_at {B:Nat} {w:World} {n:Int} (h:w.cell? ⟨B,2,none⟩=some (.int .i64 n)):vaOf B w=n:=by
 unfold vaOf
 rw [h]
 rfl
section
variable {w0:World} {B M:Nat} {p:Lp} {S Q:List ByteArray} {F:List Nb} {G:List ByteArray} {vq vf vg:Value} {q:World}
theorem Lw.drop1 {t:ByteArray} {o:Obj} (h:Lw w0 B M p (t :: S) Q F G vq vf vg q) (hm:MapH (putB q M o) M ((p.va+1) % 8) S) :
  Lw w0 B M ⟨p.wi,p.vs,(p.va+1) % 8,p.vr,p.ak⟩ S Q F G vq vf vg ((putB q M o).setCell ⟨B,2,none⟩ (.int .i64 ((p.va+1) % 8))):=by
 obtain ⟨k1,k2,k3,k4⟩:=h.frM (q':=putB q M o) (fun k hk=>putB_other _ _ _ _ hk)
 have hk:∀ k,k≠B→((putB q M o).setCell ⟨B,2,none⟩ (.int .i64 ((p.va+1) % 8))).heap[k]?=(putB q M o).heap[k]?:=fun k hk=>heap_setCell_other _ _ _ _ hk
 have nB:∀ g cur T,T≠104→(putB q M o).heap[g]?=some (.cells cur T)→g≠B:=fun g cur T hT h1 e=>by
  rw [e,k1] at h1
  cases h1
  exact hT rfl
 have nM:M≠B:=fun e=>by
  obtain ⟨es,c,h1,_⟩:=h.mp
  rw [e,h.row] at h1
  cases h1
 exact ⟨heap_setCell_same _ _ 2 _ _ _ k1,hm.other (hk M nM),k2.other fun g cur _ h2=>hk g (nB g cur _ (by decide) h2),own_at k3 fun g cur _ h2=>hk g (nB g cur _ (by decide) h2),own_at k4 fun g cur _ h2=>hk g (nB g cur _ (by decide) h2),h.bB,h.bM,(putB_below h.lo h.bM _).setCell (p:=⟨B,2,none⟩) h.bB _⟩
set_option maxHeartbeats 8000000 in
theorem iDrop (h:Lw w0 B M p S Q F G vq vf vg q) (ha:0≤p.va∧p.va≤7) (nr:Int) (hn:0≤nr∧nr≤7) (j:Nat) (hj:(j:Int)=far nr p.va) (hS:j≤S.length) :
  Calls Tryz.prog 123 #[.pointer (some ⟨B,0,none⟩),.int .i64 nr] q fun e q'=>e=.returned (.tuple #[])∧Lw w0 B M ⟨p.wi,p.vs,nr,p.vr,p.ak⟩ (S.drop j) Q F G vq vf vg q':=by
 obtain ⟨wi,vs,va,vr,ak⟩:=p
 dsimp only at *
 unfold far at hj
 have HL:=hide h
 clear h
 go_enter Tryz.func123,Tryz.ntmps123
 go_wp2_with fail
 go_loopw [4] (fun _ wr=>∃ (i:Nat),i≤j∧Lw w0 B M ⟨wi,vs,(va+i) % 8,vr,ak⟩ (S.drop i) Q F G vq vf vg wr) (fun _ wr=>j - ((vaOf B wr - va) % 8).toNat)
 case atStart =>
  refine ⟨0,Nat.zero_le _,?_⟩
  rw [show (va+((0:Nat):Int)) % 8=va by omega,List.drop_zero]
  exact uh HL
 case round =>
  obtain ⟨i,hi,hL⟩:=hrel
  have c2:=(row9l hL.row).2.2.1
  dsimp only at c2
  by_cases hlt:i<j
  ·have d1:((va+(i:Int)) % 8 != nr)=true:=bne_iff_ne.2 (by omega)
   have hil:i<S.length:=by omega
   rw [drop_cons' hil] at hL
   obtain ⟨ob,hdel,hmp⟩:=hL.drew.mp.del 0
   have hD:=hL.drew.drop1 hmp
   have kW:=(hL.drew.frM (q':=putB wr.drew M ob) (fun k hk=>putB_other _ _ _ _ hk)).1
   have e2:=(row9l kW).2.2.1
   have g2:=frz kW 2
   have c6:=(row9l hL.row).2.2.2.2.2.2.1
   dsimp only at hdel hD e2
   have hv0:vaOf B wr=(va+(i:Int)) % 8:=vaOf_at c2
   have hv1:=vaOf_at (row9l hD.row).2.2.1
   have HX:=hide (And.intro hD (And.intro hv0 hv1))
   have C:=hide fun v=>iNumN ((va+i) % 8) (by omega) v
   generalize hW:putB wr.drew M ob=W at *
   clear hW hmp kW hD hL hv0 hv1 HL
   generalize hk:(va+(i:Int)) % 8=k at *
   go_wp2_with fail
   go_region
   clear hdel c2 c6
   go_wp2_with (first
    | (go_at_call 114;refine (uh C _).mono ?_;rintro e w3 ⟨rfl,hw⟩;replace hw:=hw.symm;subst hw))
   go_roundw
   case rel =>
    refine ⟨i+1,by omega,?_⟩
    have:=(uh HX).1
    rw [show (k+1) % 8=(va+((i+1:Nat):Int)) % 8 by omega] at this
    rw [show (k+1) % 8=(va+((i+1:Nat):Int)) % 8 by omega]
    exact this
   case measure =>
    rw [(uh HX).2.1,(uh HX).2.2]
    omega
  ·have e:i=j:=by omega
   subst e
   have d1:((va+(i:Int)) % 8 != nr)=false:=by
    rw [bne_eq_false_iff_eq]
    omega
   have HV:Hid ((va+(i:Int)) % 8=nr):=hide (by omega)
   have HX:=hide hL
   clear hL HL
   go_wp2_with fail
   refine Great.bodyPost_end0 rfl rfl ⟨rfl,?_⟩
   have:=uh HX
   rw [uh HV] at this
   exact this
end
end Go.Proofs.YtkcghhkkepndnaaGreatDoor
namespace Go.Proofs.YtkcghhkkepndnaaGreatDoor
open Go.RowKit
def endV:List Hd.Fd→Value
 | []=>.tuple #[.agg #[.int .i64 0,.string ⟨#[]⟩],.bool false]
 | f :: _=>.tuple #[.agg #[.int .i64 f.kind,.string (txt f.text)],.bool true]
theorem specGoodB (u:ByteArray) (wide:Bool) (w:World) (hu:u.size≤8000) :
  Calls Tryz.prog 128 #[.string u,.bool wide] w fun e w'=>e=.returned (.bool (goodV u wide))∧Below w.heap.size w w':=by
 by_cases h:tailN wide≤u.size
 ·rw [show goodV u wide=_ from if_pos ⟨hu,h⟩,Bool.beq_comm]
  exact specGood_at u wide w (u.size - tailN wide) (by omega) hu
 ·rw [show goodV u wide=false from if_neg fun k=>h k.2]
  exact specGood_no u wide w (by omega)
theorem row2' {w:World} {B:Nat} {x0 x1:Value} {T:TypeId} (h:w.heap[B]?=some (.cells #[x0,x1] T)) :
  w.cell? ⟨B,0,none⟩=some x0∧w.cell? ⟨B,1,none⟩=some x1∧w.frozen? ⟨B,0,none⟩=false∧w.frozen? ⟨B,1,none⟩=false :=
 ⟨by rw [cell_of_row _ _ _ _ _ _ h];rfl,by rw [cell_of_row _ _ _ _ _ _ h];rfl,frz h _,frz h _⟩
theorem row6' {w:World} {B:Nat} {x0 x1 x2 x3 x4 x5:Value} {T:TypeId} (h:w.heap[B]?=some (.cells #[x0,x1,x2,x3,x4,x5] T)) :
  w.cell? ⟨B,0,none⟩=some x0∧w.cell? ⟨B,1,none⟩=some x1∧w.cell? ⟨B,2,none⟩=some x2∧w.cell? ⟨B,3,none⟩=some x3∧w.cell? ⟨B,4,none⟩=some x4∧w.cell? ⟨B,5,none⟩=some x5:=by
 refine ⟨?_,?_,?_,?_,?_,?_⟩
 all_goals
  rw [cell_of_row _ _ _ _ _ _ h]
  rfl
theorem infoF:(Tryz.prog.info? 113).map (·.size)=some 2:=by kernel_rfl
set_option maxHeartbeats 2000000 in
theorem specEnd_but (wide:Bool) (x:Int) (inn esc long:Bool) (u:ByteArray) (w:World) (hu:u.size≤304) (hng:inn=true→esc=false→long=false→tailN wide<u.size→goodV u wide=false) :
  Calls Tryz.prog 103 #[.agg #[.bool wide,.int .i64 x,.bool inn,.bool esc,.bool long,.string u]] w fun e w'=>e=.returned (endV (Hd.endOf (gd wide) ⟨inn,esc,long,u.data.toList⟩))∧Below w.heap.size w w':=by
 have hlen:u.data.toList.length=u.size:=by rw [Array.length_toList];rfl
 have HM:=hide (many' wide)
 have HG:=hide fun v=>specGoodB u wide v (by omega)
 have hk4:=tailN_le wide
 cases inn
 ·have hE:Hd.endOf (gd wide) ⟨false,esc,long,u.data.toList⟩=[]:=by simp [Hd.endOf]
  rw [hE]
  go_enter Tryz.func103,Tryz.ntmps103
  go_wp2
  refine bodyPost_ret (v:=endV []) (by simp [results,Tryz.results103,go_sem,endV]) rfl ⟨rfl,?_⟩
  exact ((Below.refl _ _).alloc (Nat.le_refl _) _).alloc (by simp) _
 ·cases esc
  ·by_cases h0:u.size=0
   ·obtain rfl:=empty_of_size h0
    cases long
    ·have hE:Hd.endOf (gd wide) ⟨true,false,false,(ByteArray.mk #[]).data.toList⟩=[]:=by simp [Hd.endOf]
     rw [hE]
     go_enter Tryz.func103,Tryz.ntmps103
     go_wp2
     refine bodyPost_ret (v:=endV []) (by simp [results,Tryz.results103,go_sem,endV]) rfl ⟨rfl,?_⟩
     exact ((Below.refl _ _).alloc (Nat.le_refl _) _).alloc (by simp) _
    ·have hE:Hd.endOf (gd wide) ⟨true,false,true,(ByteArray.mk #[]).data.toList⟩=[⟨5,[]⟩]:=by simp [Hd.endOf]
     rw [hE]
     go_enter Tryz.func103,Tryz.ntmps103
     go_wp2
     refine bodyPost_ret (v:=endV [⟨5,[]⟩]) (by simp [results,Tryz.results103,go_sem,endV,txt]) rfl ⟨rfl,?_⟩
     exact ((Below.refl _ _).alloc (Nat.le_refl _) _).alloc (by simp) _
   ·have d2:=not_empty h0
    have hnn:¬ u.data.toList=[]:=fun e=>h0 (by rw [← hlen,e];rfl)
    cases long
    ·by_cases hc:u.size≤tailN wide
     ·have hE:Hd.endOf (gd wide) ⟨true,false,false,u.data.toList⟩=[⟨3,[]⟩]:=by
       simp only [Hd.endOf]
       rw [if_neg (by simp),if_neg (by simp),if_neg (by simp [hnn]),if_neg (by simp),if_pos (show u.data.toList.length≤(gd wide).k by rw [hlen];exact hc)]
      rw [hE]
      generalize tailN wide=k at *
      have d3:(u.size:Int)≤(k:Int):=by omega
      have d4:decide ((u.size:Int)≤(k:Int))=true:=decide_eq_true d3
      clear hE hnn hlen
      go_enter Tryz.func103,Tryz.ntmps103
      go_wp2_with fail
      go_quiet (first
       | (go_at_call 127;refine Calls.quiet_of_same (uh HM _)))
      go_wp2
      have hO1:(((w.alloc (.cells #[.bool wide,.int .i64 x,.bool true,.bool false,.bool false,.string u] 59)).alloc (.cells #[.int .i64 0,.string ⟨#[]⟩] 113)).drewN nq).heap[w.heap.size+1]?=some (.cells #[.int .i64 0,.string ⟨#[]⟩] 113):=by
       have h:=heap_alloc_last (w.alloc (.cells #[.bool wide,.int .i64 x,.bool true,.bool false,.bool false,.string u] 59)) (.cells #[.int .i64 0,.string ⟨#[]⟩] 113)
       rw [show (w.alloc (.cells #[.bool wide,.int .i64 x,.bool true,.bool false,.bool false,.string u] 59)).heap.size=w.heap.size+1 by simp] at h
       exact h
      have hbb:Below w.heap.size w (((w.alloc (.cells #[.bool wide,.int .i64 x,.bool true,.bool false,.bool false,.string u] 59)).alloc (.cells #[.int .i64 0,.string ⟨#[]⟩] 113)).drewN nq):=by
       have h:=((Below.refl w.heap.size w).alloc (Nat.le_refl _) (.cells #[.bool wide,.int .i64 x,.bool true,.bool false,.bool false,.string u] 59)).alloc (by simp) (.cells #[.int .i64 0,.string ⟨#[]⟩] 113)
       exact ⟨h.os,h.tape,h.output,h.size,h.block⟩
      have hfin:(((((w.alloc (.cells #[.bool wide,.int .i64 x,.bool true,.bool false,.bool false,.string u] 59)).alloc (.cells #[.int .i64 0,.string ⟨#[]⟩] 113)).drewN nq).setCell ⟨w.heap.size+1,0,none⟩ (.int .i64 3)).setCell ⟨w.heap.size+1,1,none⟩ (.string ⟨#[]⟩)).heap[w.heap.size+1]?=some (.cells #[.int .i64 3,.string ⟨#[]⟩] 113):=by
       rw [heap_setCell_same _ _ 1 _ _ _ (heap_setCell_same _ _ 0 _ _ _ hO1)]
       rfl
      have hld:=run_loadVar_row (P:=Tryz.prog) (((((w.alloc (.cells #[.bool wide,.int .i64 x,.bool true,.bool false,.bool false,.string u] 59)).alloc (.cells #[.int .i64 0,.string ⟨#[]⟩] 113)).drewN nq).setCell ⟨w.heap.size+1,0,none⟩ (.int .i64 3)).setCell ⟨w.heap.size+1,1,none⟩ (.string ⟨#[]⟩)) (w.heap.size+1) 113 113 #[.int .i64 3,.string ⟨#[]⟩] (0,0) _ hfin Tryz.underlying113 rfl infoF
      have hbf:Below w.heap.size w (((((w.alloc (.cells #[.bool wide,.int .i64 x,.bool true,.bool false,.bool false,.string u] 59)).alloc (.cells #[.int .i64 0,.string ⟨#[]⟩] 113)).drewN nq).setCell ⟨w.heap.size+1,0,none⟩ (.int .i64 3)).setCell ⟨w.heap.size+1,1,none⟩ (.string ⟨#[]⟩)):=((hbb).setCell (p:=⟨w.heap.size+1,0,none⟩) (Nat.le_succ _) _).setCell (p:=⟨w.heap.size+1,1,none⟩) (Nat.le_succ _) _
      refine bodyPost_ret (v:=endV [⟨3,[]⟩]) ?_ rfl ⟨rfl,hbf⟩
      simp [results,Tryz.results103,asAddr,Result.andThen,hld,endV,txt]
     ·have hkl:tailN wide<u.size:=by omega
      obtain ⟨m,hm⟩:∃ m:Nat,u.size=m+tailN wide:=⟨u.size - tailN wide,by omega⟩
      have hE:Hd.endOf (gd wide) ⟨true,false,false,u.data.toList⟩=(if goodV u wide then [⟨1,u.data.toList.take m⟩] else [⟨2,[]⟩]):=by
       simp only [Hd.endOf]
       rw [if_neg (by simp),if_neg (by simp),if_neg (by simp [hnn]),if_neg (by simp),if_neg (show ¬ u.data.toList.length≤(gd wide).k by rw [hlen];exact hc),show u.data.toList.length - (gd wide).k=m from by rw [hlen];show u.size - tailN wide=m;omega]
       show (if (!goodV u wide)=true then _ else _)=_
       cases goodV u wide<;>rfl
      have HX:Hid (u.extract 0 m=txt (u.data.toList.take m)):=hide (by
       apply ByteArray.ext
       apply Array.ext'
       simp [txt,ByteArray.data_extract])
      have hgv:=hng rfl rfl rfl hkl
      rw [show Hd.endOf (gd wide) ⟨true,false,false,u.data.toList⟩=[⟨2,[]⟩] by rw [hE,hgv];rfl]
      rw [hgv] at HG
      clear hgv hE
      all_goals
       generalize tailN wide=k at *
       have d3:¬ ((u.size:Int)≤(k:Int)):=by omega
       have d4:decide ((u.size:Int)≤(k:Int))=false:=decide_eq_false d3
       have d5:(u.size:Int) - (k:Int)=(m:Int):=by omega
       have d6:(m:Int)≤(u.size:Int):=by omega
       clear hnn hlen hm hc
       go_enter Tryz.func103,Tryz.ntmps103
       go_wp2_with fail
       go_quiet (first
        | (go_at_call 127;refine Calls.quiet_of_same (uh HM _)))
       go_wp2_with fail
       refine (uh HG _).mono ?_
       rintro e w2 ⟨rfl,hb2⟩
       have hO1:(((w.alloc (.cells #[.bool wide,.int .i64 x,.bool true,.bool false,.bool false,.string u] 59)).alloc (.cells #[.int .i64 0,.string ⟨#[]⟩] 113)).drewN nq).heap[w.heap.size+1]?=some (.cells #[.int .i64 0,.string ⟨#[]⟩] 113):=by
        have h:=heap_alloc_last (w.alloc (.cells #[.bool wide,.int .i64 x,.bool true,.bool false,.bool false,.string u] 59)) (.cells #[.int .i64 0,.string ⟨#[]⟩] 113)
        rw [show (w.alloc (.cells #[.bool wide,.int .i64 x,.bool true,.bool false,.bool false,.string u] 59)).heap.size=w.heap.size+1 by simp] at h
        exact h
       have hbb:Below w.heap.size w (((w.alloc (.cells #[.bool wide,.int .i64 x,.bool true,.bool false,.bool false,.string u] 59)).alloc (.cells #[.int .i64 0,.string ⟨#[]⟩] 113)).drewN nq):=by
        have h:=((Below.refl w.heap.size w).alloc (Nat.le_refl _) (.cells #[.bool wide,.int .i64 x,.bool true,.bool false,.bool false,.string u] 59)).alloc (by simp) (.cells #[.int .i64 0,.string ⟨#[]⟩] 113)
        exact ⟨h.os,h.tape,h.output,h.size,h.block⟩
       have hD1:(((w.alloc (.cells #[.bool wide,.int .i64 x,.bool true,.bool false,.bool false,.string u] 59)).alloc (.cells #[.int .i64 0,.string ⟨#[]⟩] 113)).drewN nq).heap[w.heap.size]?=some (.cells #[.bool wide,.int .i64 x,.bool true,.bool false,.bool false,.string u] 59):=(Below.heap_alloc _ _ _ (by simp)).trans (heap_alloc_last w _)
       have hszb:(((w.alloc (.cells #[.bool wide,.int .i64 x,.bool true,.bool false,.bool false,.string u] 59)).alloc (.cells #[.int .i64 0,.string ⟨#[]⟩] 113)).drewN nq).heap.size=w.heap.size+2:=by show ((w.alloc (.cells #[.bool wide,.int .i64 x,.bool true,.bool false,.bool false,.string u] 59)).alloc (.cells #[.int .i64 0,.string ⟨#[]⟩] 113)).heap.size=_;simp
       have hD2:=(hb2.block w.heap.size (by rw [hszb];omega)).trans hD1
       have hO2:=(hb2.block (w.heap.size+1) (by rw [hszb];omega)).trans hO1
       have hbb2:Below w.heap.size w w2:=hbb.trans (hb2.mono (by rw [hszb];omega))
       obtain ⟨j0,j1,j2,j3,j4,j5⟩:=row6' hD2
       obtain ⟨o0,o1,q0,q1⟩:=row2' hO2
       clear hO1 hbb hD1 hszb hb2 hD2
      ·go_wp2
       have hfin:((w2.setCell ⟨w.heap.size+1,0,none⟩ (.int .i64 2)).setCell ⟨w.heap.size+1,1,none⟩ (.string ⟨#[]⟩)).heap[w.heap.size+1]?=some (.cells #[.int .i64 2,.string ⟨#[]⟩] 113):=by
        rw [heap_setCell_same _ _ 1 _ _ _ (heap_setCell_same _ _ 0 _ _ _ hO2)]
        rfl
       have hld:=run_loadVar_row (P:=Tryz.prog) ((w2.setCell ⟨w.heap.size+1,0,none⟩ (.int .i64 2)).setCell ⟨w.heap.size+1,1,none⟩ (.string ⟨#[]⟩)) (w.heap.size+1) 113 113 #[.int .i64 2,.string ⟨#[]⟩] (0,0) _ hfin Tryz.underlying113 rfl infoF
       have hbf:Below w.heap.size w ((w2.setCell ⟨w.heap.size+1,0,none⟩ (.int .i64 2)).setCell ⟨w.heap.size+1,1,none⟩ (.string ⟨#[]⟩)):=((hbb2).setCell (p:=⟨w.heap.size+1,0,none⟩) (Nat.le_succ _) _).setCell (p:=⟨w.heap.size+1,1,none⟩) (Nat.le_succ _) _
       apply bodyPost_ret (v:=endV [⟨2,[]⟩])
       ·simp [results,Tryz.results103,asAddr,Result.andThen,hld,endV,txt]
       ·rfl
       ·exact ⟨rfl,hbf⟩
    ·have hE:Hd.endOf (gd wide) ⟨true,false,true,u.data.toList⟩=[⟨5,[]⟩]:=by simp [Hd.endOf]
     rw [hE]
     go_enter Tryz.func103,Tryz.ntmps103
     go_wp2
     refine bodyPost_ret (v:=endV [⟨5,[]⟩]) (by simp [results,Tryz.results103,go_sem,endV,txt]) rfl ⟨rfl,?_⟩
     exact ((Below.refl _ _).alloc (Nat.le_refl _) _).alloc (by simp) _
  ·have hE:Hd.endOf (gd wide) ⟨true,true,long,u.data.toList⟩=[⟨4,[]⟩]:=by simp [Hd.endOf]
   rw [hE]
   go_enter Tryz.func103,Tryz.ntmps103
   go_wp2
   refine bodyPost_ret (v:=endV [⟨4,[]⟩]) (by simp [results,Tryz.results103,go_sem,endV,txt]) rfl ⟨rfl,?_⟩
   exact ((Below.refl _ _).alloc (Nat.le_refl _) _).alloc (by simp) _
end Go.Proofs.YtkcghhkkepndnaaGreatDoor
namespace Go.Proofs.YtkcghhkkepndnaaGreatDoor
open Go.RowKit
set_option maxHeartbeats 2000000 in
theorem specEnd_good (wide:Bool) (x:Int) (u:ByteArray) (w:World) (hu:u.size≤304) (hkl:tailN wide<u.size) (hgv:goodV u wide=true) :
  Calls Tryz.prog 103 #[.agg #[.bool wide,.int .i64 x,.bool true,.bool false,.bool false,.string u]] w fun e w'=>e=.returned (endV [⟨1,u.data.toList.take (u.size - tailN wide)⟩])∧Below w.heap.size w w':=by
 have HM:=hide (many' wide)
 have HG:=hide fun v=>specGoodB u wide v (by omega)
 rw [hgv] at HG
 have hk4:=tailN_le wide
 have d2:=not_empty (t:=u) (by omega)
 obtain ⟨m,hm⟩:∃ m:Nat,u.size=m+tailN wide:=⟨u.size - tailN wide,by omega⟩
 rw [show u.size - tailN wide=m by omega]
 have HX:Hid (u.extract 0 m=txt (u.data.toList.take m)):=hide (by
  apply ByteArray.ext
  apply Array.ext'
  simp [txt,ByteArray.data_extract])
 generalize tailN wide=k at *
 have d3:¬ ((u.size:Int)≤(k:Int)):=by omega
 have d4:decide ((u.size:Int)≤(k:Int))=false:=decide_eq_false d3
 have d5:(u.size:Int) - (k:Int)=(m:Int):=by omega
 have d6:(m:Int)≤(u.size:Int):=by omega
 have d7:IntKind.i64.wrap (m:Int)=(m:Int):=by rw [IntKind.wrap_i64];omega
 clear hm hgv
 go_enter Tryz.func103,Tryz.ntmps103
 go_wp2_with fail
 go_quiet (first
  | (go_at_call 127;refine Calls.quiet_of_same (uh HM _)))
 go_wp2_with fail
 refine (uh HG _).mono ?_
 rintro e w2 ⟨rfl,hb2⟩
 have hO1:(((w.alloc (.cells #[.bool wide,.int .i64 x,.bool true,.bool false,.bool false,.string u] 59)).alloc (.cells #[.int .i64 0,.string ⟨#[]⟩] 113)).drewN nq).heap[w.heap.size+1]?=some (.cells #[.int .i64 0,.string ⟨#[]⟩] 113):=by
  have h:=heap_alloc_last (w.alloc (.cells #[.bool wide,.int .i64 x,.bool true,.bool false,.bool false,.string u] 59)) (.cells #[.int .i64 0,.string ⟨#[]⟩] 113)
  rw [show (w.alloc (.cells #[.bool wide,.int .i64 x,.bool true,.bool false,.bool false,.string u] 59)).heap.size=w.heap.size+1 by simp] at h
  exact h
 have hbb:Below w.heap.size w (((w.alloc (.cells #[.bool wide,.int .i64 x,.bool true,.bool false,.bool false,.string u] 59)).alloc (.cells #[.int .i64 0,.string ⟨#[]⟩] 113)).drewN nq):=by
  have h:=((Below.refl w.heap.size w).alloc (Nat.le_refl _) (.cells #[.bool wide,.int .i64 x,.bool true,.bool false,.bool false,.string u] 59)).alloc (by simp) (.cells #[.int .i64 0,.string ⟨#[]⟩] 113)
  exact ⟨h.os,h.tape,h.output,h.size,h.block⟩
 have hD1:(((w.alloc (.cells #[.bool wide,.int .i64 x,.bool true,.bool false,.bool false,.string u] 59)).alloc (.cells #[.int .i64 0,.string ⟨#[]⟩] 113)).drewN nq).heap[w.heap.size]?=some (.cells #[.bool wide,.int .i64 x,.bool true,.bool false,.bool false,.string u] 59):=(Below.heap_alloc _ _ _ (by simp)).trans (heap_alloc_last w _)
 have hszb:(((w.alloc (.cells #[.bool wide,.int .i64 x,.bool true,.bool false,.bool false,.string u] 59)).alloc (.cells #[.int .i64 0,.string ⟨#[]⟩] 113)).drewN nq).heap.size=w.heap.size+2:=by show ((w.alloc (.cells #[.bool wide,.int .i64 x,.bool true,.bool false,.bool false,.string u] 59)).alloc (.cells #[.int .i64 0,.string ⟨#[]⟩] 113)).heap.size=_;simp
 have hD2:=(hb2.block w.heap.size (by rw [hszb];omega)).trans hD1
 have hO2:=(hb2.block (w.heap.size+1) (by rw [hszb];omega)).trans hO1
 have hbb2:Below w.heap.size w w2:=hbb.trans (hb2.mono (by rw [hszb];omega))
 obtain ⟨j0,j1,j2,j3,j4,j5⟩:=row6' hD2
 obtain ⟨o0,o1,q0,q1⟩:=row2' hO2
 clear hO1 hbb hD1 hszb hb2 hD2
 go_wp2_with fail
 have hfin:(((w2.setCell ⟨w.heap.size+1,0,none⟩ (.int .i64 1)).setCell ⟨w.heap.size+1,1,none⟩ (.string (u.extract 0 m))).drew).heap[w.heap.size+1]?=some (.cells #[.int .i64 1,.string (u.extract 0 m)] 113):=by
  show ((w2.setCell ⟨w.heap.size+1,0,none⟩ (.int .i64 1)).setCell ⟨w.heap.size+1,1,none⟩ (.string (u.extract 0 m))).heap[w.heap.size+1]?=_
  rw [heap_setCell_same _ _ 1 _ _ _ (heap_setCell_same _ _ 0 _ _ _ hO2)]
  rfl
 have HLD:=hide (run_loadVar_row (P:=Tryz.prog) (((w2.setCell ⟨w.heap.size+1,0,none⟩ (.int .i64 1)).setCell ⟨w.heap.size+1,1,none⟩ (.string (u.extract 0 m))).drew) (w.heap.size+1) 113 113 #[.int .i64 1,.string (u.extract 0 m)] (0,0) _ hfin Tryz.underlying113 rfl infoF)
 have HBF:Hid (Below w.heap.size w ((w2.setCell ⟨w.heap.size+1,0,none⟩ (.int .i64 1)).setCell ⟨w.heap.size+1,1,none⟩ (.string (u.extract 0 m))).drew):=hide (((hbb2).setCell (p:=⟨w.heap.size+1,0,none⟩) (Nat.le_succ _) _).setCell (p:=⟨w.heap.size+1,1,none⟩) (Nat.le_succ _) _).drew
 clear hfin hbb2
 have hne:¬ (w.heap.size+1=w.heap.size):=by omega
 have hne2:¬ (w.heap.size=w.heap.size+1):=by omega
 go_region_held (fun q=>q.cell? ⟨w.heap.size,5,none⟩=some (.string u)∧q.cell? ⟨w.heap.size,0,none⟩=some (.bool wide)) (first | go_keep) (first
  | (go_at_call 127;refine (uh HM _).mono ?_;rintro e w3 ⟨rfl,rfl⟩))
 all_goals go_wp2
 all_goals
  apply bodyPost_ret (v:=endV [⟨1,u.data.toList.take m⟩])
  ·have hld:=uh HLD
   rw [uh HX] at hld
   simp [results,Tryz.results103,asAddr,Result.andThen,hld,endV,uh HX]
  ·rfl
  ·exact ⟨rfl,uh HBF⟩
theorem specEnd (wide:Bool) (x:Int) (inn esc long:Bool) (u:ByteArray) (w:World) (hu:u.size≤304) :
  Calls Tryz.prog 103 #[.agg #[.bool wide,.int .i64 x,.bool inn,.bool esc,.bool long,.string u]] w fun e w'=>e=.returned (endV (Hd.endOf (gd wide) ⟨inn,esc,long,u.data.toList⟩))∧Below w.heap.size w w':=by
 by_cases h:inn=true∧esc=false∧long=false∧tailN wide<u.size∧goodV u wide=true
 ·obtain ⟨rfl,rfl,rfl,hk,hg⟩:=h
  have hlen:u.data.toList.length=u.size:=by rw [Array.length_toList];rfl
  have hE:Hd.endOf (gd wide) ⟨true,false,false,u.data.toList⟩=[⟨1,u.data.toList.take (u.size - tailN wide)⟩]:=by
   simp only [Hd.endOf]
   have hnn:¬ u.data.toList=[]:=fun e=>by rw [e] at hlen;simp at hlen;omega
   rw [if_neg (by simp),if_neg (by simp),if_neg (by simp [hnn]),if_neg (by simp),if_neg (show ¬ u.data.toList.length≤(gd wide).k by rw [hlen];show ¬ u.size≤tailN wide;omega),hlen]
   show (if (!goodV u wide)=true then _ else _)=_
   rw [hg]
   rfl
  rw [hE]
  exact specEnd_good wide x u w hu hk hg
 ·refine specEnd_but wide x inn esc long u w hu fun h1 h2 h3 h4=>?_
  cases hg:goodV u wide
  ·rfl
  ·exact absurd ⟨h1,h2,h3,h4,hg⟩ h
end Go.Proofs.YtkcghhkkepndnaaGreatDoor
namespace Go.Proofs.YtkcghhkkepndnaaGreatDoor
open Go.RowKit
def okU8:Value→Bool
 | .int .u8 n=>decide (0≤n∧n<256)
 | _=>false
theorem lit_u8 {w:World} {g:Nat} {cs:Array Value} {T:TypeId} (h:w.heap[g]?=some (.cells cs T)) (ha:∀ v ∈ cs.toList,okU8 v=true) (r:Nat) (hr:r<cs.size):∃ c:UInt8,w.cell? ⟨g,r,none⟩=some (.int .u8 c.toNat):=by
 have h1:=ha cs[r] (by simp)
 unfold okU8 at h1
 split at h1
 ·rename_i n hn
  have h2:0≤n∧n<256:=by simpa using h1
  refine ⟨UInt8.ofNat n.toNat,?_⟩
  rw [cell_of_row w g r cs T (0,0) h,Array.getElem?_eq_getElem hr,hn]
  have:(UInt8.ofNat n.toNat).toNat=n.toNat:=by simp;omega
  rw [this]
  congr 2
  omega
 ·cases h1
theorem RowB.turn {w:World} {base g cap:Nat} {l:List UInt8} (h:RowB w base (.slice (some ⟨g,0,none⟩) l.length cap) l) (i:Nat) (hi:i<l.length) (c:UInt8) :
  RowB (w.setCell ⟨g,i,none⟩ (.int .u8 c.toNat)) base (.slice (some ⟨g,0,none⟩) l.length cap) (l.set i c)∧(∃ y,w.cell? ⟨g,i,none⟩=some y)∧w.frozen? ⟨g,i,none⟩=false∧base≤g:=by
 rcases h with ⟨h,_⟩ | ⟨g',cap',cur,fz,e,q2,q3,q4,q5,q6,q7,q8⟩
 ·cases h
 ·cases e
  refine ⟨Or.inr ⟨g,cap,cur.setIfInBounds i (.int .u8 c.toNat),fz,by rw [List.length_set],q2,?_,by rw [List.length_set];exact q4,q5,by simpa using q6,?_,q8⟩,⟨cur[i]'(by omega),by rw [cell_of_row _ _ _ _ _ _ q3,Array.getElem?_eq_getElem (by omega)]⟩,?_,q2⟩
  ·rw [setCell_eq_setRow _ g i cur 5 fz _ q3]
   exact setRow_heap _ g cur _ 5 _ q3
  ·rw [List.length_set,Array.toList_setIfInBounds,List.take_set,q7]
   simp [vals,nums,List.map_set]
  ·unfold World.frozen?
   rw [q3]
   have:=q8 i (by omega)
   simp
   omega
theorem RowB.touch {w w':World} {B base:Nat} {v:Value} {l:List UInt8} (h:RowB w base v l) (ht:Touch B w w') (hB:B<base):RowB w' base v l :=
 h.keep fun g _ _ hg _=>ht.block g (by omega)
theorem RowB.old {w w':World} {base N:Nat} {v:Value} {l:List UInt8} (h:RowB w base v l) (hb:Below N w w') (hN:w.heap.size≤N):RowB w' base v l :=
 h.keep fun g _ _ _ hg=>hb.block g (Nat.lt_of_lt_of_le (Array.getElem?_eq_some_iff.1 hg).1 hN)
theorem RowB.some {w:World} {base:Nat} {v:Value} {l:List UInt8} (h:RowB w base v l) (hl:0<l.length):∃ g cap,v=.slice (some ⟨g,0,none⟩) l.length cap:=by
 rcases h with ⟨_,rfl⟩ | ⟨g,cap,_,_,e,_⟩
 ·exact absurd hl (by simp)
 ·exact ⟨g,cap,e⟩
end Go.Proofs.YtkcghhkkepndnaaGreatDoor
