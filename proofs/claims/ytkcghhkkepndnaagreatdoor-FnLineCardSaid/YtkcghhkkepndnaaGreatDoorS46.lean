/- What LineRun answers: compared, marked, held by the law's words; what lay in memory stands but for the marked row; no condition but those named. The law FnExactLineRun walked: it returns true, and what lay in memory stands; the decoder's tables lie as the texts lay them; no condition but those named. The law FnLine walked: of drawn texts, a drawn window, a drawn script and either way of settling, it returns true, and what lay in memory stands; the decoder's tables lie as the texts lay them; no condition but those named. -/
import Derived.Test.YtkcghhkkepndnaaGreatDoorS45
import Derived.Test.YtkcghhkkepndnaaGreatDoorS04
import Derived.Test.YtkcghhkkepndnaaGreatDoorS15
import Derived.Test.YtkcghhkkepndnaaGreatDoorS33
import Derived.Test.YtkcghhkkepndnaaGreatDoorS42
import Derived.Test.YtkcghhkkepndnaaGreatDoorShW
namespace Go.Proofs.YtkcghhkkepndnaaGreatDoor
open Go.RowKit
theorem row5o {w:World} {B:Nat} {x0 x1 x2 x3 x4:Value} {T:TypeId} (h:w.heap[B]?=some (.cells #[x0,x1,x2,x3,x4] T)) :
  w.cell? ⟨B,0,none⟩=some x0∧w.cell? ⟨B,1,none⟩=some x1∧w.cell? ⟨B,2,none⟩=some x2∧w.cell? ⟨B,3,none⟩=some x3∧w.cell? ⟨B,4,none⟩=some x4 :=
 ⟨by rw [cell_of_row _ _ _ _ _ _ h];rfl,by rw [cell_of_row _ _ _ _ _ _ h];rfl,by rw [cell_of_row _ _ _ _ _ _ h];rfl,by rw [cell_of_row _ _ _ _ _ _ h];rfl,by rw [cell_of_row _ _ _ _ _ _ h];rfl⟩
end Go.Proofs.YtkcghhkkepndnaaGreatDoor
namespace Go.Proofs.YtkcghhkkepndnaaGreatDoor
open Go.RowKit
theorem lineO_len {T:List ByteArray} {wi:Int} {L:List Int} {st:Bool}:(lineO T wi L st).gt.length≤1000000:=by
 unfold lineO
 split
 ·exact Nat.zero_le _
 ·rename_i h4
  split
  ·rename_i h
   exact (lineN_ok h.2.2 h.2.1 (by omega) st).b.g
  ·exact Nat.zero_le _
structure Lq (w:World) (A B:Nat) (o:RO) (v0 v1:Value) (F1:List ByteArray) (W:World):Prop where
 ra:W.heap[A]?=some (.cells (roC v0 o.dn o.bad o.un o.cd) 28)
 rb:W.heap[B]?=some (.cells (roC v1 o.dn o.bad o.un o.cd) 28)
 h0:HoldsT W v0 o.gt
 h1:HoldsT W v1 F1
 l:Below w.heap.size w W
theorem Lq.step {w:World} {A B:Nat} {o:RO} {v0 v1:Value} {F1:List ByteArray} {W W':World} (h:Lq w A B o v0 v1 F1 W) (hb:Below W.heap.size W W'):Lq w A B o v0 v1 F1 W' :=
 ⟨(hb.block A (Array.getElem?_eq_some_iff.1 h.ra).1).trans h.ra,(hb.block B (Array.getElem?_eq_some_iff.1 h.rb).1).trans h.rb,h.h0.below hb rfl,h.h1.below hb rfl,h.l.trans (hb.mono h.l.size)⟩
section
variable {w:World} {A B:Nat} {o:RO} {v0 v1:Value} {F1:List ByteArray} {W W':World}
end
theorem own_ltT {W:World} {base:Nat} {v:Value} {F:List ByteArray} (h:W.ownsRow base 9 1 v F.length (scells F)) (g:Nat) (hg:v.ownBlock=some g):base≤g∧g<W.heap.size:=⟨(own_typ h g hg).1,(own_typ h g hg).2.1⟩
def AnS (o:RO) (G:Nat) (w:World) (e:Ending) (w':World):Prop:=∃ a c,e=.returned (.agg (roC (.slice a G c) o.dn o.bad o.un o.cd))∧HoldsT w' (.slice a G c) o.gt∧(∀ g,(Value.slice a G c).ownBlock=some g→w.heap.size≤g∧g<w'.heap.size)∧Below w.heap.size w w'
theorem AnR.s {o:RO} {G:Nat} {w w':World} {e:Ending} (h:AnR o w e w') (hG:o.gt.length=G):AnS o G w e w':=by
 obtain ⟨v,rfl,ho,hb⟩:=h
 obtain ⟨a,c,rfl⟩:=own_form ho
 subst hG
 exact ⟨a,c,rfl,HoldsT.own ho,fun g hg=>own_ltT ho g hg,hb⟩
end Go.Proofs.YtkcghhkkepndnaaGreatDoor
namespace Go.Proofs.YtkcghhkkepndnaaGreatDoor
open Go.RowKit
theorem lineO_law (T:List ByteArray) (wi:Int) (L:List Int) (st:Bool):((lineO T wi L st).cd≠0∧(lineO T wi L st).gt=[])∨((lineO T wi L st).cd=0∧(0<(lineO T wi L true).un∨((lineO T wi L true).dn=true∧(lineO T wi L true).gt=T∧∃ k,k≤T.length∧(lineO T wi L st).gt=T.take k∧((lineO T wi L st).dn=true→k=T.length)))):=by
 unfold lineO
 by_cases h4:400<T.length∨400<L.length
 ·rw [if_pos h4]
  exact Or.inl ⟨by decide,rfl⟩
 ·rw [if_neg h4,if_neg h4]
  by_cases h:T.length≠0∧qOk T=true∧winOk wi=true
  ·rw [if_pos h,if_pos h]
   refine Or.inr ⟨rfl,?_⟩
   dsimp only
   by_cases hu:0<(lineN T wi L true).un
   ·exact Or.inl hu
   ·obtain ⟨h1,h2,k,h3,h5,h6⟩:=line_law h.2.2 h.2.1 L st hu
    exact Or.inr ⟨decide_eq_true h1,h2,k,h3,h5,fun hd=>h6 (of_decide_eq_true hd)⟩
  ·rw [if_neg h]
   exact Or.inl ⟨by dsimp only;decide,rfl⟩
theorem capT {W:World} {base:Nat} {a:Option Addr} {n c:Nat} {xs:List Value} (h:W.ownsRow base 9 1 (.slice a n c) n xs):n≤c:=by
 rcases h.2 with ⟨e,_⟩ | ⟨g,cap,cur,e,_,_,hc,_⟩
 ·injection e with _ e1 e2
  omega
 ·injection e with _ e1 e2
  omega
theorem HoldsT.pre {W:World} {a:Option Addr} {n c:Nat} {T:List ByteArray} (h:HoldsT W (.slice a n c) T) (hn:T.length=n) (k:Nat) (hk:k≤n):HoldsT W (.slice a k c) (T.take k):=by
 have hl:(T.take k).length=k:=by rw [List.length_take];omega
 rcases h with ⟨ad,cp,e,e2⟩ | ⟨g,cp,cur,e,q1,q2,q3⟩
 ·have:k=0:=by rw [e2] at hn;simp at hn;omega
  subst this
  exact Or.inl ⟨a,c,rfl,rfl⟩
 ·injection e with e1 e2 e3
  subst e1
  refine Or.inr ⟨g,c,cur,by rw [hl],q1,by rw [hl];omega,fun j hj=>?_⟩
  rw [hl] at hj
  rw [q3 j (by omega)]
  unfold scells
  rw [List.map_take,List.getElem?_take,if_pos hj]
theorem infoI9:(Tryz.prog.info? 2).map (·.size)=some 1:=by kernel_rfl
theorem field_lo3 (a:Value) (dn:Bool) (x y z:Int) (W:World):(Instr.field 28 (.agg #[a,.bool dn,.int .i64 x,.int .i64 y,.int .i64 z]) 3).run Tryz.prog W=.ok (.int .i64 y) W:=by
 cases hq:Tryz.prog.info? 2 with
 | none=>have:=infoI9;rw [hq] at this;cases this
 | some j =>
  have hs:j.size=1:=by have:=infoI9;rw [hq] at this;simpa using this
  simp [Instr.field,run_underlying Tryz.underlying28,part,asAgg,sizeOf,typeInfo,hq,hs]
set_option linter.unusedSimpArgs false in
set_option maxHeartbeats 16000000 in
set_option maxRecDepth 100000 in
theorem lawLf (w:World) (sl:Value) (m:Nat) (hm:m≤maxLen) (hD:Dat w w.heap.size sl m) (hU:Lib.Utf8Tabs 0 1 w) :
  Calls Tryz.prog 3 #[sl] w fun e w'=>e=.returned (.bool true)∧Below w.heap.size w w':=by
 obtain ⟨sa,sc,rfl⟩:=hD.1
 have CD:=hide (drawLi w _ m hm hD)
 have HU:=hide hU
 clear hD hU
 unfold maxLen at hm
 go_enter Tryz.func3,Tryz.ntmps3
 by_cases hbig:1048576<m
 ·have d0:(1048576:Int)<(m:Int):=by omega
  clear hbig
  go_wp2
  go_ret
  exact ⟨rfl,Below.refl _ _⟩
 have d0:¬ ((1048576:Int)<(m:Int)):=by omega
 clear hbig
 go_wp2_with fail
 refine (uh CD).mono ?_
 rintro e w1 ⟨v,T,x,u,L,st,rfl,hT20,hL100,hv⟩
 obtain ⟨la,lc,rfl⟩:=own_form hv.t
 obtain ⟨ya,yc,rfl⟩:=own_form hv.l
 have hcap:=capT hv.t
 have HT:Hid (∀ W,Below w1.heap.size w1 W→HoldsT W (.slice la T.length lc) T):=hide fun W hb=>(HoldsT.own hv.t).below hb rfl
 have CI:Hid (∀ (s:Bool) (W:World),Below w1.heap.size w1 W→Calls Tryz.prog 6 #[.slice la T.length lc,.int .i64 x,.slice ya L.length yc,.bool s] W fun e w'=>AnS (lineO T x L s) (lineO T x L s).gt.length W e w'):=hide fun s W hb =>
  (iLineRun (Utf8Tabs_below (uh HU) (hv.g.trans (hb.mono hv.g.size))) (uh HT W hb).s (by omega) x ((HoldsI.own hv.l).below hb rfl) (by omega) hv.R s).mono fun e w' k=>k.s rfl
 have CS:Hid (∀ (s:Bool) (W:World),Below w1.heap.size w1 W→Calls Tryz.prog 7 #[.slice la T.length lc,.int .i64 x,.slice ya L.length yc,.bool s] W fun e w'=>AnS (lineO T x L s) (lineO T x L s).gt.length W e w'):=hide fun s W hb =>
  (sLineRun (uh HT W hb).s (by omega) x ((HoldsI.own hv.l).below hb rfl) (by omega) hv.R s).mono fun e w' k=>k.s rfl
 have HB1:=hide hv.g
 have hlaw:=lineO_law T x L st
 have hlo:(lineO T x L st).gt.length≤1000000:=lineO_len
 have hlo2:(lineO T x L true).gt.length≤1000000:=lineO_len
 have CI1:=hide (uh CI st)
 have CI2:=hide (uh CI true)
 have CS1:=hide (uh CS st)
 have CS2:=hide (uh CS true)
 clear CI CS CD HU hv
 generalize lineO T x L st=o at *
 generalize lineO T x L true=o2 at *
 have CL1:=hide fun v1 v2 W=>lwT v1 v2 o.gt W (by omega)
 have CL2:=hide fun v1 v2 W=>lwT v1 v2 T W (by omega)
 obtain ⟨n,hn⟩:∃ n,T.length=n:=⟨_,rfl⟩
 obtain ⟨n2,hn2⟩:∃ n,L.length=n:=⟨_,rfl⟩
 obtain ⟨G,hG⟩:∃ G:Nat,o.gt.length=G:=⟨_,rfl⟩
 obtain ⟨G2,hG2⟩:∃ G:Nat,o2.gt.length=G:=⟨_,rfl⟩
 rw [hn,hn2,hG] at CI1 CS1
 rw [hn,hn2,hG2] at CI2 CS2
 rw [hn] at HT hlaw hT20 hcap ⊢
 rw [hn2] at hL100 ⊢
 have HG:=hide hG
 have HG2:=hide hG2
 have HN:=hide hn
 have hbn:(o.dn != o.dn)=false:=by cases o.dn<;>rfl
 have HLW:=hide hlaw
 clear hG hG2 hn hn2 hlaw hlo hlo2
 go_wp2_with fail
 refine (uh CI1 w1 (Below.refl _ _)).mono ?_
 rintro e w2 ⟨a0,c0,rfl,ho2,_,hb2⟩
 have H3:Hid ((w2.alloc (.cells #[.slice a0 G c0,.bool o.dn,.int .i64 o.bad,.int .i64 o.un,.int .i64 o.cd] 28)).heap[w2.heap.size]?=some (.cells (roC (.slice a0 G c0) o.dn o.bad o.un o.cd) 28)∧HoldsT (w2.alloc (.cells #[.slice a0 G c0,.bool o.dn,.int .i64 o.bad,.int .i64 o.un,.int .i64 o.cd] 28)) (.slice a0 G c0) o.gt∧Below w1.heap.size w1 (w2.alloc (.cells #[.slice a0 G c0,.bool o.dn,.int .i64 o.bad,.int .i64 o.un,.int .i64 o.cd] 28))):=hide (by
  have hbx:=(Below.refl w2.heap.size w2).alloc (Nat.le_refl _) (.cells #[.slice a0 G c0,.bool o.dn,.int .i64 o.bad,.int .i64 o.un,.int .i64 o.cd] 28)
  exact ⟨heap_alloc_new _ _,ho2.below hbx rfl,hb2.trans (hbx.mono hb2.size)⟩)
 clear ho2 hb2 CI1
 go_upto_region 5 with fail
 generalize w2.alloc (.cells #[.slice a0 G c0,.bool o.dn,.int .i64 o.bad,.int .i64 o.un,.int .i64 o.cd] 28)=w3 at H3 ⊢
 generalize w2.heap.size=A at H3 ⊢
 go_wp2_with fail
 refine (uh CS1 w3 (uh H3).2.2).mono ?_
 rintro e w4 ⟨a1,c1,rfl,ho4,_,hb4⟩
 have H5:Hid ((w4.alloc (.cells #[.slice a1 G c1,.bool o.dn,.int .i64 o.bad,.int .i64 o.un,.int .i64 o.cd] 28)).heap[A]?=some (.cells (roC (.slice a0 G c0) o.dn o.bad o.un o.cd) 28)∧(w4.alloc (.cells #[.slice a1 G c1,.bool o.dn,.int .i64 o.bad,.int .i64 o.un,.int .i64 o.cd] 28)).heap[w4.heap.size]?=some (.cells (roC (.slice a1 G c1) o.dn o.bad o.un o.cd) 28)∧HoldsT (w4.alloc (.cells #[.slice a1 G c1,.bool o.dn,.int .i64 o.bad,.int .i64 o.un,.int .i64 o.cd] 28)) (.slice a0 G c0) o.gt∧HoldsT (w4.alloc (.cells #[.slice a1 G c1,.bool o.dn,.int .i64 o.bad,.int .i64 o.un,.int .i64 o.cd] 28)) (.slice a1 G c1) o.gt∧Below w1.heap.size w1 (w4.alloc (.cells #[.slice a1 G c1,.bool o.dn,.int .i64 o.bad,.int .i64 o.un,.int .i64 o.cd] 28))):=hide (by
  obtain ⟨p1,p2,p3⟩:=uh H3
  have hbx:=(Below.refl w4.heap.size w4).alloc (Nat.le_refl _) (.cells #[.slice a1 G c1,.bool o.dn,.int .i64 o.bad,.int .i64 o.un,.int .i64 o.cd] 28)
  have hb35:=hb4.trans (hbx.mono hb4.size)
  exact ⟨(hb35.block A (Array.getElem?_eq_some_iff.1 p1).1).trans p1,heap_alloc_new _ _,p2.below hb35 rfl,ho4.below hbx rfl,p3.trans (hb35.mono p3.size)⟩)
 clear ho4 hb4 H3 CS1
 go_upto_region 6 with fail
 generalize w4.alloc (.cells #[.slice a1 G c1,.bool o.dn,.int .i64 o.bad,.int .i64 o.un,.int .i64 o.cd] 28)=w5 at H5 ⊢
 generalize w4.heap.size=B at H5 ⊢
 obtain ⟨i0,i1,i2,i3,i4⟩:=row5o (uh H5).1
 obtain ⟨m0,m1,m2,m3,m4⟩:=row5o (uh H5).2.1
 go_wp2_with fail
 refine (uh CL1 _ _ w5 (uh H5).2.2.1 (uh H5).2.2.2.1).mono ?_
 rintro e w6 ⟨rfl,hb6⟩
 have H6:Hid (w6.heap[A]?=some (.cells (roC (.slice a0 G c0) o.dn o.bad o.un o.cd) 28)∧w6.heap[B]?=some (.cells (roC (.slice a1 G c1) o.dn o.bad o.un o.cd) 28)∧HoldsT w6 (.slice a0 G c0) o.gt∧Below w1.heap.size w1 w6):=hide (by
  obtain ⟨p1,p2,p3,_,p5⟩:=uh H5
  exact ⟨(hb6.block A (Array.getElem?_eq_some_iff.1 p1).1).trans p1,(hb6.block B (Array.getElem?_eq_some_iff.1 p2).1).trans p2,p3.below hb6 rfl,p5.trans (hb6.mono p5.size)⟩)
 clear i0 i1 i2 i3 i4 m0 m1 m2 m3 m4 hb6 H5 CL1
 obtain ⟨i0,i1,i2,i3,i4⟩:=row5o (uh H6).1
 obtain ⟨m0,m1,m2,m3,m4⟩:=row5o (uh H6).2.1
 rcases uh HLW with ⟨hcd,hgt⟩ | ⟨hcd,hlaw⟩
 ·have e0:(o.cd != 0)=true:=by rw [bne,beq_eq_false_iff_ne.2 hcd];rfl
  have hG0:G=0:=by rw [← uh HG,hgt];rfl
  subst hG0
  clear HLW hcd hgt
  go_wp2
  go_ret
  exact ⟨rfl,(uh HB1).trans ((uh H6).2.2.2.mono (uh HB1).size)⟩
 have e0:(o.cd != 0)=false:=by rw [hcd];rfl
 have HLA:=hide hlaw
 clear HLW hcd hlaw
 go_upto_region 10 with fail
 go_wp2_with fail
 refine (uh CI2 w6 (uh H6).2.2.2).mono ?_
 rintro e w7 ⟨a2,c2,rfl,ho7,_,hb7⟩
 have H8:Hid ((w7.alloc (.cells #[.slice a2 G2 c2,.bool o2.dn,.int .i64 o2.bad,.int .i64 o2.un,.int .i64 o2.cd] 28)).heap[A]?=some (.cells (roC (.slice a0 G c0) o.dn o.bad o.un o.cd) 28)∧(w7.alloc (.cells #[.slice a2 G2 c2,.bool o2.dn,.int .i64 o2.bad,.int .i64 o2.un,.int .i64 o2.cd] 28)).heap[w7.heap.size]?=some (.cells (roC (.slice a2 G2 c2) o2.dn o2.bad o2.un o2.cd) 28)∧HoldsT (w7.alloc (.cells #[.slice a2 G2 c2,.bool o2.dn,.int .i64 o2.bad,.int .i64 o2.un,.int .i64 o2.cd] 28)) (.slice a0 G c0) o.gt∧HoldsT (w7.alloc (.cells #[.slice a2 G2 c2,.bool o2.dn,.int .i64 o2.bad,.int .i64 o2.un,.int .i64 o2.cd] 28)) (.slice a2 G2 c2) o2.gt∧Below w1.heap.size w1 (w7.alloc (.cells #[.slice a2 G2 c2,.bool o2.dn,.int .i64 o2.bad,.int .i64 o2.un,.int .i64 o2.cd] 28))):=hide (by
  obtain ⟨p1,_,p2,p3⟩:=uh H6
  have hbx:=(Below.refl w7.heap.size w7).alloc (Nat.le_refl _) (.cells #[.slice a2 G2 c2,.bool o2.dn,.int .i64 o2.bad,.int .i64 o2.un,.int .i64 o2.cd] 28)
  have hb35:=hb7.trans (hbx.mono hb7.size)
  exact ⟨(hb35.block A (Array.getElem?_eq_some_iff.1 p1).1).trans p1,heap_alloc_new _ _,p2.below hb35 rfl,ho7.below hbx rfl,p3.trans (hb35.mono p3.size)⟩)
 clear ho7 hb7 H6 CI2 i0 i1 i2 i3 i4 m0 m1 m2 m3 m4
 go_upto_region 11 with fail
 generalize w7.alloc (.cells #[.slice a2 G2 c2,.bool o2.dn,.int .i64 o2.bad,.int .i64 o2.un,.int .i64 o2.cd] 28)=w8 at H8 ⊢
 generalize w7.heap.size=C at H8 ⊢
 go_wp2_with fail
 refine (uh CS2 w8 (uh H8).2.2.2.2).mono ?_
 rintro e w9 ⟨a3,c3,rfl,_,_,hb9⟩
 have H9:Hid (w9.heap[A]?=some (.cells (roC (.slice a0 G c0) o.dn o.bad o.un o.cd) 28)∧w9.heap[C]?=some (.cells (roC (.slice a2 G2 c2) o2.dn o2.bad o2.un o2.cd) 28)∧HoldsT w9 (.slice a0 G c0) o.gt∧HoldsT w9 (.slice a2 G2 c2) o2.gt∧Below w1.heap.size w1 w9):=hide (by
  obtain ⟨p1,p2,p3,p4,p5⟩:=uh H8
  exact ⟨(hb9.block A (Array.getElem?_eq_some_iff.1 p1).1).trans p1,(hb9.block C (Array.getElem?_eq_some_iff.1 p2).1).trans p2,p3.below hb9 rfl,p4.below hb9 rfl,p5.trans (hb9.mono p5.size)⟩)
 clear hb9 H8 CS2
 have hfo:=field_lo3
 rcases uh HLA with hun | ⟨hdn,hgt2,k,hk,hgt,hkd⟩
 ·have d1:(0:Int)<o2.un:=hun
  clear HLA hun
  go_wp2_with fail
  go_ret
  exact ⟨rfl,(uh HB1).trans ((uh H9).2.2.2.2.mono (uh HB1).size)⟩
 by_cases hun:0<o2.un
 ·have d1:(0:Int)<o2.un:=hun
  clear HLA hun hdn hgt2 hk hgt hkd
  go_wp2_with fail
  go_ret
  exact ⟨rfl,(uh HB1).trans ((uh H9).2.2.2.2.mono (uh HB1).size)⟩
 have d1:¬ (0:Int)<o2.un:=hun
 have HDN:=hide (And.intro hdn (And.intro hgt2 (And.intro hk (And.intro hgt hkd))))
 clear HLA hun hdn hgt2 hk hgt hkd
 go_upto_region 13 with fail
 clear hfo
 obtain ⟨hdn,hgt2,hk,hgt,hkd⟩:=uh HDN
 clear HDN
 have hkG:k=G:=by rw [← uh HG,hgt,List.length_take,uh HN];omega
 rw [hkG] at hk hgt hkd
 clear hkG
 have hGn:(G:Int)≤(n:Int):=by omega
 have HY:Hid (∀ W,Below w9.heap.size w9 W→(W.cell? ⟨A,0,none⟩=some (.slice a0 G c0)∧W.cell? ⟨A,1,none⟩=some (.bool o.dn)∧W.cell? ⟨C,0,none⟩=some (.slice a2 G2 c2)∧W.cell? ⟨C,1,none⟩=some (.bool true))∧HoldsT W (.slice a0 G c0) (T.take G)∧HoldsT W (.slice a2 G2 c2) T∧HoldsT W (.slice la n lc) T∧HoldsT W (.slice la G lc) (T.take G)∧Below w.heap.size w W):=hide (fun W hb=>by
  obtain ⟨p1,p2,p3,p4,p5⟩:=uh H9
  obtain ⟨i0,i1,_,_,_⟩:=row5o ((hb.block A (Array.getElem?_eq_some_iff.1 p1).1).trans p1)
  obtain ⟨m0,m1,_,_,_⟩:=row5o ((hb.block C (Array.getElem?_eq_some_iff.1 p2).1).trans p2)
  rw [hdn] at m1
  have h1W:=p5.trans (hb.mono p5.size)
  have hl:=uh HT W h1W
  have h3:=p3.below hb rfl
  have h4:=p4.below hb rfl
  rw [hgt] at h3
  rw [hgt2] at h4
  exact ⟨⟨i0,i1,m0,m1⟩,h3,h4,hl,hl.pre (uh HN) G hk,(uh HB1).trans (h1W.mono (uh HB1).size)⟩)
 have CL3:=hide fun v1 v2 W=>lwT v1 v2 (T.take G) W (by rw [List.length_take];omega)
 have HKD:=hide hkd
 clear H9 hgt hgt2 hdn hkd HB1 HT HG HG2 hbn
 generalize o.dn=bd at *
 have HB:Hid (Below w9.heap.size w9 w9.drew):=hide (Below.refl _ _).drew
 have hS0:=(uh HY _ (uh HB)).1
 refine wp_region_held_drew (S:=fun z=>z.cell? ⟨A,0,none⟩=some (.slice a0 G c0)∧z.cell? ⟨A,1,none⟩=some (.bool bd)∧z.cell? ⟨C,0,none⟩=some (.slice a2 G2 c2)∧z.cell? ⟨C,1,none⟩=some (.bool true)) (by kernel_rfl) hS0 (fun hHeld=>?_)
 clear hHeld
 generalize w9.drew=yd at HB hS0 ⊢
 refine t2 0 ?_
 refine t2 1 ?_
 refine t2 2 ?_
 refine t2 3 ?_
 refine t2 4 ?_
 refine t2 5 ?_
 refine r1 6 rfl (fun K hK=>?_)
 go_simp
 refine (uh CL2 _ _ yd (uh HY _ (uh HB)).2.2.1 (uh HY _ (uh HB)).2.2.2.1).mono ?_
 rintro e z1 ⟨rfl,hb⟩
 have HB2:=hide ((uh HB).trans (hb.mono (uh HB).size))
 have hS1:=(uh HY _ (uh HB2)).1
 refine ro hK hS1 fun _=>?_
 clear hK K hb hS0 HB CL2
 refine t2 7 ?_
 refine t2 8 ?_
 refine t2 9 ?_
 refine t2 10 ?_
 refine t2 11 ?_
 refine t2 12 ?_
 refine t2 13 ?_
 refine tk 14 (v:=.bool true) rfl (fun w _=>?_) ?_
 ·go_simp
 try simp only [Act.put,sA,sZ,sS,gA,gZ,gS]
 refine t2 15 ?_
 refine t2 16 ?_
 refine t2 17 ?_
 refine t2 18 ?_
 refine t2 19 ?_
 refine t2 20 ?_
 refine t2 21 ?_
 refine t2 22 ?_
 refine tk 23 (v:=.slice la G lc) rfl (fun w _=>?_) ?_
 ·go_simp
  intro h
  omega
 try simp only [Act.put,sA,sZ,sS,gA,gZ,gS]
 refine r1 24 rfl (fun K hK=>?_)
 go_simp
 refine (uh CL3 _ _ z1 (uh HY _ (uh HB2)).2.1 (uh HY _ (uh HB2)).2.2.2.2.1).mono ?_
 rintro e z2 ⟨rfl,hb⟩
 have HB3:=hide ((uh HB2).trans (hb.mono (uh HB2).size))
 have hS2:=(uh HY _ (uh HB3)).1
 refine ro hK hS2 fun _=>?_
 clear hK K hb hS1 HB2 CL3
 refine t2 25 ?_
 refine t2 26 ?_
 refine t2 27 ?_
 refine t2 28 ?_
 cases bd
 ·refine t2 29 ?_
  refine t2 30 ?_
  refine t5 31 ?_
  refine t5 32 ?_
  refine t5 33 ?_
  refine t5 34 ?_
  refine t5 35 ?_
  refine t5 36 ?_
  refine t2 37 ?_
  refine t2 38 ?_
  refine t2 39 ?_
  refine dn ?_ _
  go_wp2_with fail
  go_ret
  exact ⟨rfl,(uh HY _ (uh HB3)).2.2.2.2.2⟩
 ·have hGe:((G:Int) == (n:Int))=true:=beq_iff_eq.2 (by have:=uh HKD rfl;omega)
  refine t2 29 ?_
  refine t2 30 ?_
  refine t2 31 ?_
  refine t2 32 ?_
  refine t2 33 ?_
  refine t2 34 ?_
  refine t2 35 ?_
  refine tk 36 (v:=.bool true) rfl (fun w _=>?_) ?_
  ·go_simp
  try simp only [Act.put,sA,sZ,sS,gA,gZ,gS]
  refine t2 37 ?_
  refine t2 38 ?_
  refine t2 39 ?_
  refine dn ?_ _
  go_wp2_with fail
  go_ret
  exact ⟨rfl,(uh HY _ (uh HB3)).2.2.2.2.2⟩
end Go.Proofs.YtkcghhkkepndnaaGreatDoor
