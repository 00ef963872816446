/- LaidEt DkM DkL DkF DefrAll FmC -/
import Derived.LaidHandle
import Derived.Test.YtjebigodbnefiaaGreatDoorS38
import Derived.Test.YtjebigodbnefiaaGreatDoorS34
import Derived.Test.YtjebigodbnefiaaGreatDoorS35
set_option maxHeartbeats 8000000
set_option maxRecDepth 100000
namespace Go.Proofs.YtjebigodbnefiaaGreatDoor
open Go.Proofs.Tryz
open Go.ChangeShapes Go.WideShapes Go.ChangeAt Go.RowKit
theorem vN : prog.globalNamed "errors.errorType" = some 11 := by kernel_rfl
theorem vO : (prog.cutTypes.find? (·.1 == "internal/reflectlite.rtype")).map (·.2) = some 151 := by kernel_rfl
theorem rU:((List.range 372).filter fun t=>prog.rowNamed t [101,114,114,111,114])=[91]:=by kernel_rfl
theorem mz:prog.types.size=372:=by kernel_rfl
def ke : List (String × DataW Unit) := [("errors.errorType", Rows.laid_errors_errorType)]
theorem vP {W:World} (h:laidMetH prog ke W):Et W:=by
 have h':laidMet prog [] W∧handlesMet prog ke W:=h;obtain ⟨name,u,ty,e1,e2,e3,e4,e5⟩:=h'.2 _ (List.mem_singleton.2 rfl);have en:name=[101,114,114,111,114]:=(Option.some.inj e1).symm;subst en;obtain rfl:=Option.some.inj (vO.symm.trans e2);have hm:ty ∈ (List.range 372).filter fun t=>prog.rowNamed t [101,114,114,111,114]:=List.mem_filter.2 ⟨List.mem_range.2 (by rw [← mz];exact e3),e4⟩
 rw [rU] at hm;obtain rfl:=List.mem_singleton.1 hm;have hh:typeHandle prog 91=.pointer (some ⟨21,91,none⟩):=by kernel_rfl
 rw [hh] at e5;have:=World.var?_cell vN e5 0
 exact this
noncomputable def np (os:Os):World :=
 let w0:=World.holding prog os ⟨#[],#[],[]⟩
 { w0 with heap:=w0.heap.modify 11 fun
   | .cells _ t frozen=>.cells #[.iface 151 (.agg #[.pointer (some ⟨21,91,none⟩)])] t frozen
   | o=>o }
end Go.Proofs.YtjebigodbnefiaaGreatDoor
namespace Go.Proofs.YtjebigodbnefiaaGreatDoor
open Go.RowKit Go.Proofs.Tryz
theorem uv (w:World):Calls prog 22 #[] w fun e w'=>∃ D,e=.returned (.pointer (some ⟨D,0,none⟩))∧w.heap.size≤D∧w'.heap[D]?=some (.cells (iP ⟨false,0,false,false,false,⟨#[]⟩⟩ ++ (aA (eP 300 0 7 true true false) (.slice none 0 0) (.slice none 0 0)).toList ++ [Value.int .i64 0,Value.int .i64 0]).toArray 74)∧Below w.heap.size w w':=by
 go_enter func22,ntmps22
 go_wp2_with fail
 refine (jC 300 0 7 true true false _).mono ?_;rintro e w1 ⟨rfl,hb1⟩;have HB:=aa hb1;clear hb1
 go_wp2_with (first
  | (refine wpList_buildTo rfl 74 _ rfl (some 3) rfl (iP ⟨false,0,false,false,false,⟨#[]⟩⟩ ++ (aA (eP 300 0 7 true true false) (.slice none 0 0) (.slice none 0 0)).toList ++ [Value.int .i64 0,Value.int .i64 0]).toArray (by as_aux_lemma=>kernel_rfl) ?_)
  | (refine Great.wpList_allocTo rfl (some 4) rfl (.pointer (some ⟨w1.heap.size,0,none⟩)) (.cells (iP ⟨false,0,false,false,false,⟨#[]⟩⟩ ++ (aA (eP 300 0 7 true true false) (.slice none 0 0) (.slice none 0 0)).toList ++ [Value.int .i64 0,Value.int .i64 0]).toArray 74) (by as_aux_lemma=>kernel_rfl) ?_))
 go_ret
 exact ⟨_,rfl,(uh HB).size,zF w1 _,(uh HB).alloc (uh HB).size _⟩
end Go.Proofs.YtjebigodbnefiaaGreatDoor
namespace Go.Proofs.YtjebigodbnefiaaGreatDoor
open Go.RowKit Go.Proofs.Tryz
theorem yQ {W:World} {D:Nat} {P:World→Prop} {u:ByteArray} (t x y:ByteArray) (bl:Bool) (ht:t.size≤8000) (hM:MxT W) (hE:∀ W',P W'→ErT W') (hP:∀ W' W'',P W'→Below W'.heap.size W' W''→P W'')
  (hL:Lib.splitB ⟨#[32]⟩ 0 (Lib.countB t ⟨#[32]⟩) t=if bl then [x] else [x,y]) (hy:bl=true→y=x) (hc:Lib.countB t ⟨#[32]⟩ + 1=if bl then 1 else 2) (h0:Lib.containsS (if bl then [x] else [x,y]) ⟨#[]⟩=false) (hx:Lib.containsS em x=true) (hq:(x.toList == [108,105,110,101])=bl)
  (ho:∀ W',Below W.heap.size W W'→Calls prog 83 #[.pointer (some ⟨D,0,none⟩),.string x,.string y] W' fun e W''=>e=.returned (.tuple #[.string u,.nilIface])∧P W''∧Od D W' W'') (hD:D<W.heap.size) :
  Calls prog 41 #[.pointer (some ⟨D,0,none⟩),.string t] W fun e W'=>e=.returned (.string u)∧P W':=by
 have CS:=aa (zq t W ht hM);rw [hL,hc] at CS;have CW:=aa fun (W':World) (g c:Nat) (hr:W'.heap[g]?=some (.cells ((if bl then [x] else [x,y]).map Value.string).toArray 9))=>xS g (if bl then 1 else 2) c (if bl then [x] else [x,y]) x bl W' hr (by cases bl<;>rfl) h0 (by cases bl<;>rfl) hx hq rfl
 have HO:=aa ho;have HE:=aa (zA hE hP);clear hM hL hc h0 hx hq ho hE hP;cases bl
 ·simp only [Bool.false_eq_true,if_false] at CS CW;go_enter func41,ntmps41
  go_wp2_with fail
  refine (uh CS).mono ?_;rintro e w1 ⟨rfl,hw1⟩;have hr:w1.heap[W.heap.size]?=some (.cells ([x,y].map Value.string).toArray 9):=by rw [hw1];exact zF W _
  have hb1:Below W.heap.size W w1:=by rw [hw1];exact (zC _ _).alloc (zD _) _
  have H1:=aa (zA hr hb1);have hDG:D<W.heap.size:=hD;generalize hG:W.heap.size=G at *;clear hr hb1 hw1 CS;go_wp2_with fail
  refine (uh CW w1 G 2 (uh H1).1).mono ?_;rintro e w2 ⟨rfl,hb2⟩;have H2:=aa (zA ((hb2.block G (ge.1 (uh H1).1).1).trans (uh H1).1) hb2);clear hb2 CW;go_upto_region 4 with fail
  have k0:Hid (∀ q:World,q.heap[G]?=some (.cells ([x,y].map Value.string).toArray 9)→q.cell? ⟨G,0,none⟩=some (.string x)∧q.cell? ⟨G,1,none⟩=some (.string y)):=aa fun q hq=>⟨by rw [cr hq];rfl,by rw [cr hq];rfl⟩
  have H3:Hid (w2.drew.heap[G]?=some (.cells ([x,y].map Value.string).toArray 9)):=aa (uh H2).1;have HB3:=aa (((uh H1).2.trans ((uh H2).2.mono (by have:=(uh H1).2.size;omega))).trans ((zC w2.heap.size w2).drew.mono (by have:=(uh H1).2.size;have:=(uh H2).2.size;omega)));have hD2:G<w2.heap.size:=(ge.1 (uh H2).1).1;refine wp_region_held_drew (S:=fun q=>q.cell? ⟨G,0,none⟩=some (.string x)∧q.cell? ⟨G,1,none⟩=some (.string y)) (by kernel_rfl) (uh k0 _ (uh H3)) (fun hHeld=>?_);have hD3:G<w2.drew.heap.size:=hD2;generalize w2.drew=y2 at *;have hwr:IntKind.i64.wrap 1=1:=by decide
  refine tq 0 1 2 3 ?_;refine tq 4 5 6 7 ?_;refine tt 8 9 ?_;refine r3 10 fun K hK=>?_
  go_simp;refine (uh HO y2 (uh HB3)).mono ?_;rintro e y3 ⟨rfl,hp,hod⟩;have H4:=aa ((hod.same G hD3 (by omega)).trans (uh H3));have HPP:=aa hp;clear hp hod;go_wp2_with fail
  refine ro hK (uh k0 _ (uh H4)) fun _=>?_
  clear hK K;refine tq 11 12 13 14 ?_;refine t2 15 ?_;refine dn ?_ _;obtain ⟨ET,ev,ec⟩:=(uh HE).1 y3 (uh HPP);go_wp2_with fail
  refine (uw ET ev y3).mono ?_;rintro e y4 ⟨rfl,hb4⟩;have HP4:=aa ((uh HE).2 y3 y4 (uh HPP) hb4);clear hb4 ec;go_wp2_with fail
  go_ret
  exact ⟨rfl,uh HP4⟩
 ·have hyx:y=x:=hy rfl;subst hyx;simp only [if_true] at CS CW;go_enter func41,ntmps41
  go_wp2_with fail
  refine (uh CS).mono ?_;rintro e w1 ⟨rfl,hw1⟩;have hr:w1.heap[W.heap.size]?=some (.cells ([y].map Value.string).toArray 9):=by rw [hw1];exact zF W _
  have hb1:Below W.heap.size W w1:=by rw [hw1];exact (zC _ _).alloc (zD _) _
  have H1:=aa (zA hr hb1);have hDG:D<W.heap.size:=hD;generalize hG:W.heap.size=G at *;clear hr hb1 hw1 CS;go_wp2_with fail
  refine (uh CW w1 G 1 (uh H1).1).mono ?_;rintro e w2 ⟨rfl,hb2⟩;have H2:=aa (zA ((hb2.block G (ge.1 (uh H1).1).1).trans (uh H1).1) hb2);clear hb2 CW;go_upto_region 4 with fail
  have k0:Hid (∀ q:World,q.heap[G]?=some (.cells ([y].map Value.string).toArray 9)→q.cell? ⟨G,0,none⟩=some (.string y)∧q.cell? ⟨G,0,none⟩=some (.string y)):=aa fun q hq=>⟨by rw [cr hq];rfl,by rw [cr hq];rfl⟩
  have H3:Hid (w2.drew.heap[G]?=some (.cells ([y].map Value.string).toArray 9)):=aa (uh H2).1;have HB3:=aa (((uh H1).2.trans ((uh H2).2.mono (by have:=(uh H1).2.size;omega))).trans ((zC w2.heap.size w2).drew.mono (by have:=(uh H1).2.size;have:=(uh H2).2.size;omega)));have hD2:G<w2.heap.size:=(ge.1 (uh H2).1).1;refine wp_region_held_drew (S:=fun q=>q.cell? ⟨G,0,none⟩=some (.string y)∧q.cell? ⟨G,0,none⟩=some (.string y)) (by kernel_rfl) (uh k0 _ (uh H3)) (fun hHeld=>?_);have hD3:G<w2.drew.heap.size:=hD2;generalize w2.drew=y2 at *;have hwr:IntKind.i64.wrap 0=0:=by decide
  refine tq 0 1 2 3 ?_;refine tq 4 5 6 7 ?_;refine tt 8 9 ?_;refine r3 10 fun K hK=>?_
  go_simp;refine (uh HO y2 (uh HB3)).mono ?_;rintro e y3 ⟨rfl,hp,hod⟩;have H4:=aa ((hod.same G hD3 (by omega)).trans (uh H3));have HPP:=aa hp;clear hp hod;go_wp2_with fail
  refine ro hK (uh k0 _ (uh H4)) fun _=>?_
  clear hK K;refine tq 11 12 13 14 ?_;refine t2 15 ?_;refine dn ?_ _;obtain ⟨ET,ev,ec⟩:=(uh HE).1 y3 (uh HPP);go_wp2_with fail
  refine (uw ET ev y3).mono ?_;rintro e y4 ⟨rfl,hb4⟩;have HP4:=aa ((uh HE).2 y3 y4 (uh HPP) hb4);clear hb4 ec;go_wp2_with fail
  go_ret
  exact ⟨rfl,uh HP4⟩
end Go.Proofs.YtjebigodbnefiaaGreatDoor
namespace Go.Proofs.YtjebigodbnefiaaGreatDoor
open Go.RowKit Go.Proofs.Tryz
def fh (k:Ks):ByteArray:=if k.s.e.up then df [⟨#[117,112]⟩,bT k.s.e.i1,bT k.s.e.o1] else ⟨#[100,111,119,110]⟩
section
variable {base:Nat} {W W':World} {D:Nat} {k:Ks} {ca:List Value}
theorem DkM.endC (h:DkM base W D k ca) (j:Nat) (v:Value) (hv:ca[j]?=some v):W.cell? ⟨D,6+j,none⟩=some v:=h.rangeE j v hv
theorem DkM.upC (h:DkM base W D k ca):ca[19]?=some (.bool k.s.e.up)∧ca[20]?=some (.int .i64 k.s.e.i1)∧ca[25]?=some (.int .i64 k.s.e.o1):=by
 obtain ⟨x1,x2,y1,y2,rfl,_⟩:=h.en;exact ⟨by kernel_rfl,by kernel_rfl,by kernel_rfl⟩
theorem qh (h:DkM base W D k ca) (hi:-9223372036854775808≤k.s.e.i1∧k.s.e.i1≤9223372036854775807) (ho:-9223372036854775808≤k.s.e.o1∧k.s.e.o1≤9223372036854775807) (si:(bT k.s.e.i1).size≤10000) (so:(bT k.s.e.o1).size≤10000) :
  Calls prog 99 #[.pointer (some ⟨D,0,none⟩)] W fun e W'=>e=.returned (.string (fh k))∧Below W.heap.size W W':=by
 obtain ⟨u1,u2,u3⟩:=h.upC;have c25:W.cell? ⟨D,25,none⟩=some (.bool k.s.e.up):=h.endC 19 _ u1;have HH:=aa h;have HU:=aa (zA u2 u3);clear h u1 u2 u3;unfold fh;cases hup:k.s.e.up
 ·rw [hup] at c25;go_enter func99,ntmps99
  go_wp2
  go_ret
  exact ⟨rfl,zC _ _⟩
 ·rw [hup] at c25;go_enter func99,ntmps99
  go_upto_region 3 with fail
  have HY:=aa ((uh HH).below (zC _ _).drew);have HB:Hid (Below W.heap.size W W.drew):=aa (zC _ _).drew;clear HH c25;refine wp_region_held_drew (S:=fun q=>q.cell? ⟨D,26,none⟩=some (.int .i64 k.s.e.i1)∧q.cell? ⟨D,31,none⟩=some (.int .i64 k.s.e.o1)) (by kernel_rfl) ⟨(uh HY).endC 20 _ (uh HU).1,(uh HY).endC 25 _ (uh HU).2⟩ (fun hHeld=>?_);generalize W.drew=y at *;refine tq 0 1 2 3 ?_;refine tt 4 5 ?_;refine tq 7 8 9 10 ?_;refine tt 11 12 ?_;have HT:=aa fun (W':World) (n:Int) (hb:Below y.heap.size y W') (h0:-9223372036854775808≤n∧n≤9223372036854775807)=>mm n W' h0.1 h0.2 ((uh HY).below hb).tb.get.1
  refine r3 6 fun K hK=>?_
  go_simp;refine (uh HT y _ (zC _ _) hi).mono ?_;rintro e z1 ⟨rfl,hb1⟩;have HB1:=aa hb1;clear hb1;go_wp2_with fail
  refine ro hK ⟨((uh HY).below (uh HB1)).endC 20 _ (uh HU).1,((uh HY).below (uh HB1)).endC 25 _ (uh HU).2⟩ fun _=>?_
  clear hK K;refine r3 13 fun K hK=>?_
  go_simp;refine (uh HT z1 _ (uh HB1) ho).mono ?_;rintro e z2 ⟨rfl,hb2⟩;have HB2:=aa ((uh HB1).trans (hb2.mono (uh HB1).size));clear hb2 HB1;go_wp2_with fail
  refine ro hK ⟨((uh HY).below (uh HB2)).endC 20 _ (uh HU).1,((uh HY).below (uh HB2)).endC 25 _ (uh HU).2⟩ fun _=>?_
  clear hK K;have HB3:=aa ((uh HB2).alloc (uh HB2).size (.cells #[.string ⟨#[117,112]⟩,.string (bT k.s.e.i1),.string (bT k.s.e.o1)] 9));have HL:=aa (World.ownsRow_lit z2 (#[.string ⟨#[117,112]⟩,.string (bT k.s.e.i1),.string (bT k.s.e.o1)]:Array Value) 3 (zD _) (by decide) rfl:(z2.alloc (.cells #[.string ⟨#[117,112]⟩,.string (bT k.s.e.i1),.string (bT k.s.e.o1)] 9)).ownsRow z2.heap.size 9 1 (.slice (some ⟨z2.heap.size,0,none⟩) 3 3) 3 [.string ⟨#[117,112]⟩,.string (bT k.s.e.i1),.string (bT k.s.e.o1)]);refine r3 14 fun K hK=>?_
  go_simp;refine ro hK ⟨((uh HY).below (uh HB3)).endC 20 _ (uh HU).1,((uh HY).below (uh HB3)).endC 25 _ (uh HU).2⟩ fun _=>?_
  clear hK K;have CJ:=aa (vb z2.heap.size (.slice (some ⟨z2.heap.size,0,none⟩) 3 3) [⟨#[117,112]⟩,bT k.s.e.i1,bT k.s.e.o1] 3 _ rfl (uh HL) (by decide) (fun x hx=>by
   simp only [List.mem_cons,List.not_mem_nil,or_false] at hx;rcases hx with rfl | rfl | rfl
   ·decide
   ·exact si
   ·exact so))
  refine r3 15 fun K hK=>?_
  go_simp;refine (uh CJ).mono ?_;rintro e z3 ⟨rfl,hb3⟩;have HB4:=aa ((uh HB3).trans (hb3.mono (uh HB3).size));clear hb3 HB3 CJ HL;go_wp2_with fail
  refine ro hK ⟨((uh HY).below (uh HB4)).endC 20 _ (uh HU).1,((uh HY).below (uh HB4)).endC 25 _ (uh HU).2⟩ fun _=>?_
  clear hK K;refine t2 16 ?_;refine dn ?_ _;go_wp2_with fail
  go_ret
  exact ⟨rfl,(uh HB).trans ((uh HB4).mono (uh HB).size)⟩
end
end Go.Proofs.YtjebigodbnefiaaGreatDoor
namespace Go.Proofs.YtjebigodbnefiaaGreatDoor
open Go.RowKit Go.Proofs.Tryz
structure Ans where
 wide:Bool
 x:Int
 inn:Bool
 esc:Bool
 long:Bool
 text:ByteArray
 F:List Hd.Fd
 code:Int
def qI (A:Ans) (v:Value):Value:=.agg #[.bool A.wide,.int .i64 A.x,.bool A.inn,.bool A.esc,.bool A.long,.string A.text,v,.int .i64 A.code]
def jB (wide:Bool) (x:Int) (inn esc long:Bool) (u t:ByteArray):Ans :=
 if t.size≤8000 then
  if fG x inn esc long u=true then
   ⟨wide,x,(Hd.run x.toNat ⟨inn,esc,long,u.data.toList⟩ t.data.toList).inn,(Hd.run x.toNat ⟨inn,esc,long,u.data.toList⟩ t.data.toList).esc,(Hd.run x.toNat ⟨inn,esc,long,u.data.toList⟩ t.data.toList).long,co (Hd.run x.toNat ⟨inn,esc,long,u.data.toList⟩ t.data.toList).held,(Hd.finds (gd wide) x.toNat ⟨inn,esc,long,u.data.toList⟩ t.data.toList).take 400,0⟩
  else ⟨false,0,false,false,false,⟨#[]⟩,[],1⟩
 else ⟨false,0,false,false,false,⟨#[]⟩,[],2⟩
theorem AJ (wide:Bool) (x:Int) (inn esc long:Bool) (u t:ByteArray):(jB wide x inn esc long u t).F.length≤400:=by
 unfold jB;split
 ·split
  ·show ((Hd.finds _ _ _ _).take 400).length≤400
   rw [List.length_take];omega
  ·exact Nat.zero_le _
 ·exact Nat.zero_le _
theorem tj {x:Int} {inn esc long:Bool} {u:ByteArray} (h:fG x inn esc long u=true):(∃ a:Nat,x=a∧a<4294967296)∧u.size≤304:=by
 unfold fG at h;rw [Bool.and_eq_true,Bool.and_eq_true] at h;exact ⟨lU h.1,of_decide_eq_true h.2.1⟩
theorem qJ {w w':World} {v:Value} {F:List Hd.Fd} (h:w'.ownsRow w.heap.size 141 2 v F.length (cj F)):HoldsF w' v F∧∀ g,v.ownBlock=some g→w.heap.size≤g :=
 ⟨HoldsF.own h,fun g hg=>(World.ownsRow.lt h g hg).1⟩
theorem lv (wide:Bool) (x:Int) (inn esc long:Bool) (u t:ByteArray) (w:World) (ht:t.size≤maxLen) (h8:¬ t.size≤8000) :
  Calls prog 111 #[.agg #[.bool wide,.int .i64 x,.bool inn,.bool esc,.bool long,.string u],.string t] w fun e w'=>e=.returned (qI ⟨false,0,false,false,false,⟨#[]⟩,[],2⟩ (.slice none 0 0))∧Below w.heap.size w w':=by
 unfold maxLen at ht;have d0:(8000:Int)<(t.size:Int):=by omega
 go_enter func111,ntmps111
 go_wp2
 refine bodyPost_ret (v:=qI ⟨false,0,false,false,false,⟨#[]⟩,[],2⟩ (.slice none 0 0)) (by simp [results,results111,go_sem,qI]) rfl ⟨rfl,?_⟩;exact ((zC _ _).alloc (zD _) _).alloc (by simp) _
theorem lc (wide:Bool) (x:Int) (inn esc long:Bool) (u t:ByteArray) (w:World) (hu:u.size≤maxLen) (h8:t.size≤8000) (hr:fG x inn esc long u=false) :
  Calls prog 111 #[.agg #[.bool wide,.int .i64 x,.bool inn,.bool esc,.bool long,.string u],.string t] w fun e w'=>e=.returned (qI ⟨false,0,false,false,false,⟨#[]⟩,[],1⟩ (.slice none 0 0))∧Below w.heap.size w w':=by
 have d0:¬ ((8000:Int)<(t.size:Int)):=by omega
 have C1:=aa fun v=>lY wide x inn esc long u v hu
 rw [hr] at C1;go_enter func111,ntmps111
 go_wp2_with fail
 refine (uh C1 _).mono ?_;rintro e w1 ⟨rfl,hb1⟩;have hsz0:((w.alloc (.cells #[.bool wide,.int .i64 x,.bool inn,.bool esc,.bool long,.string u] 68)).alloc (.cells #[.bool false,.int .i64 0,.bool false,.bool false,.bool false,.string ⟨#[]⟩,.slice none 0 0,.int .i64 0] 138)).heap.size=w.heap.size+2:=by simp
 have hO1:w1.heap[w.heap.size+1]?=some (.cells #[.bool false,.int .i64 0,.bool false,.bool false,.bool false,.string ⟨#[]⟩,.slice none 0 0,.int .i64 0] 138):=by
  rw [hb1.block (w.heap.size+1) (by rw [hsz0];omega)];have h:=heap_alloc_last (w.alloc (.cells #[.bool wide,.int .i64 x,.bool inn,.bool esc,.bool long,.string u] 68)) (.cells #[.bool false,.int .i64 0,.bool false,.bool false,.bool false,.string ⟨#[]⟩,.slice none 0 0,.int .i64 0] 138);rw [show (w.alloc (.cells #[.bool wide,.int .i64 x,.bool inn,.bool esc,.bool long,.string u] 68)).heap.size=w.heap.size+1 by simp] at h;exact h
 have hB1:Below w.heap.size w w1:=(((zC _ _).alloc (zD _) _).alloc (by simp) _).trans (hb1.mono (by rw [hsz0];omega));obtain ⟨o0,o1,o2,o3,o4,o5,o6,o7,q0,q1,q2,q3,q4,q5,q6,q7⟩:=AF hO1;have HL:=aa (tg hO1);have HBB:=aa (qo (B:=w.heap.size+1) hB1 (show w.heap.size≤w.heap.size+1 by omega));clear hO1 hB1 hb1 hsz0;go_wp2
 refine bodyPost_ret (v:=qI ⟨false,0,false,false,false,⟨#[]⟩,[],1⟩ (.slice none 0 0)) ?_ rfl ⟨rfl,?_⟩
 ·have hld:=uh HL (.bool false) (.int .i64 0) (.bool false) (.bool false) (.bool false) (.string ⟨#[]⟩) (.slice none 0 0) (.int .i64 1);rw [dW rfl];simp [asAddr,Result.andThen,hld,qI]
 ·exact uh HBB _ _ _ _ _ _ _ _
theorem lZ (w:World) (ad:Option Addr) (cp:Nat):HoldsF w (.slice ad 0 cp) []:=Or.inl ⟨_,_,rfl,rfl⟩
theorem oJ (wide:Bool) (x:Int) (inn esc long:Bool) (u t:ByteArray) (w:World) (hu:u.size≤maxLen) (ht:t.size≤maxLen) (hT:Lib.Utf8Tabs 2 3 w) :
  Calls prog 111 #[.agg #[.bool wide,.int .i64 x,.bool inn,.bool esc,.bool long,.string u],.string t] w fun e w'=>∃ v,e=.returned (qI (jB wide x inn esc long u t) v)∧(HoldsF w' v (jB wide x inn esc long u t).F∧∀ g,v.ownBlock=some g→w.heap.size≤g)∧Below w.heap.size w w':=by
 by_cases h8:t.size≤8000
 ·cases hr:fG x inn esc long u
  ·rw [show jB wide x inn esc long u t=_ from (if_pos h8).trans (if_neg (by rw [hr];decide))];exact (lc wide x inn esc long u t w hu h8 hr).mono fun e w' ⟨p1,p2⟩=>⟨_,p1,⟨lZ _ _ _,fun g hg=>by cases hg⟩,p2⟩
  ·obtain ⟨⟨a,rfl,ha⟩,hu4⟩:=tj hr;rw [show jB wide a inn esc long u t=_ from (if_pos h8).trans (if_pos hr),Int.toNat_natCast];exact (la wide a inn esc long u t w ha h8 hu4 hr hT).mono fun e w' ⟨v,p1,p2,p3⟩=>⟨v,p1,qJ p2,p3⟩
 ·rw [show jB wide x inn esc long u t=_ from if_neg h8];exact (lv wide x inn esc long u t w ht h8).mono fun e w' ⟨p1,p2⟩=>⟨_,p1,⟨lZ _ _ _,fun g hg=>by cases hg⟩,p2⟩
end Go.Proofs.YtjebigodbnefiaaGreatDoor
namespace Go.Proofs.YtjebigodbnefiaaGreatDoor
open Go.RowKit Go.Proofs.Tryz
def a7 (x:Cf):List Op.Opt:=dO x.m x.a x.g x.p x.c x.d 6
theorem bt (z:Int):(UInt8.ofNat z.toNat).toNat=z.toNat % 256:=by simp
theorem qL:ax (fu 4).data.toList=4:=by decide
theorem oK:ax (fu 2).data.toList=2:=by decide
theorem ld {n:Nat} (h:n<65536):ax (ji n).data.toList=n:=by
 show 256*(256*0+(UInt8.ofNat ((n:Int) / 256 % 256).toNat).toNat)+(UInt8.ofNat ((n:Int) % 256).toNat).toNat=n
 rw [bt,bt];omega
theorem eg {n:Nat} (h:n<4294967296):ax (cK n).data.toList=n:=by
 show 256*(256*(256*(256*0+(UInt8.ofNat ((n:Int) / 16777216 % 256).toNat).toNat)+(UInt8.ofNat ((n:Int) / 65536 % 256).toNat).toNat)+(UInt8.ofNat ((n:Int) / 256 % 256).toNat).toNat)+(UInt8.ofNat ((n:Int) % 256).toNat).toNat=n
 rw [bt,bt,bt,bt];omega
theorem gY (x:Cf):a7 x=c_ ((x.m:Int) != 300) 1 (ji x.m) ++ (c_ ((x.a:Int) != 4294967295) 2 (cK x.a) ++ (c_ ((x.g:Int) != 0) 5 (cK x.g) ++ (c_ x.p 7 ⟨#[]⟩ ++ (c_ x.c 8 ⟨#[]⟩ ++ c_ x.d 9 (fu 4))))):=by
 simp [a7,dO,eZ]
theorem j6 {b:Bool} {k:Int} {t:ByteArray} {o:Op.Opt} (h:o ∈ c_ b k t):o=⟨k,t⟩:=by
 unfold c_ at h;split at h
 ·simpa using h
 ·simp at h
theorem oP (b:Bool) (k:Int) (t:ByteArray):(c_ b k t).Pairwise fun x y=>x.kind<y.kind:=by
 unfold c_;split
 ·exact List.pairwise_singleton _ _
 ·exact List.Pairwise.nil
theorem yg (x:Cf):(a7 x).Pairwise fun x y=>x.kind<y.kind:=by
 rw [gY];have step:∀ (b:Bool) (k:Int) (t:ByteArray) (L:List Op.Opt),L.Pairwise (fun x y=>x.kind<y.kind)→(∀ o ∈ L,k<o.kind)→(c_ b k t ++ L).Pairwise fun x y=>x.kind<y.kind:=by
  intro b k t L h1 h2;refine List.pairwise_append.2 ⟨oP _ _ _,h1,fun u hu v hv=>?_⟩;rw [j6 hu];exact h2 v hv
 have mem:∀ (b:Bool) (k j:Int) (t:ByteArray) (L:List Op.Opt),j<k→(∀ o ∈ L,j<o.kind)→∀ o ∈ c_ b k t ++ L,j<o.kind:=by
  intro b k j t L hj h o ho;rcases List.mem_append.1 ho with ho | ho
  ·rw [j6 ho];exact hj
  ·exact h o ho
 have m9:∀ (j:Int),j<9→∀ o ∈ c_ x.d 9 (fu 4),j<o.kind:=fun j hj o ho=>by rw [j6 ho];exact hj
 refine step _ _ _ _ (step _ _ _ _ (step _ _ _ _ (step _ _ _ _ (step _ _ _ _ (oP _ _ _) ?_) ?_) ?_) ?_) ?_
 ·exact m9 _ (by decide)
 ·exact mem _ _ _ _ _ (by decide) (m9 _ (by decide))
 ·exact mem _ _ _ _ _ (by decide) (mem _ _ _ _ _ (by decide) (m9 _ (by decide)))
 ·exact mem _ _ _ _ _ (by decide) (mem _ _ _ _ _ (by decide) (mem _ _ _ _ _ (by decide) (m9 _ (by decide))))
 ·exact mem _ _ _ _ _ (by decide) (mem _ _ _ _ _ (by decide) (mem _ _ _ _ _ (by decide) (mem _ _ _ _ _ (by decide) (m9 _ (by decide)))))
theorem wi (m a g:Nat) (p c d:Bool) {L:List Op.Opt} (h:L.Pairwise fun x y=>x.kind<y.kind):b_ m a g p c d L=L.map (one m a g p c d):=by
 unfold b_ dL;refine List.ext_getElem (by simp) fun i h1 h2=>?_
 have hi:i<L.length:=by simpa using h2
 rw [List.getElem_map,List.getElem_map,List.getElem_range,gC _ _ _ _ _ _ _ _ hi];unfold gB;rw [if_neg];intro hw;unfold cQ at hw;obtain ⟨y,hy,he⟩:=List.any_eq_true.1 hw;obtain ⟨j,hj,rfl⟩:=List.mem_take_iff_getElem.1 hy;have:=List.pairwise_iff_getElem.1 h j i (by omega) hi (by omega)
 have he':L[j].kind=L[i].kind:=by simpa using he
 omega
def ne (b:Bool) (v:Int × Op.Opt):List (Int × Op.Opt):=if b=true then [v] else []
theorem zM (f:Op.Opt→Int × Op.Opt) (b:Bool) (k:Int) (t:ByteArray):(c_ b k t).map f=ne b (f ⟨k,t⟩):=by
 cases b<;>rfl
structure Ye where
 m:Nat
 a:Nat
 p:Bool
 c:Bool
 d:Bool
def gM (y:Ye) (x:Cf):Bool:=((x.a:Int) != 4294967295) && ((x.a ||| y.a:Nat):Int) != (x.a:Int)
def gN (G:Nat) (x:Cf):Bool:=((x.g:Int) != 0) && (x.g:Int) == (G:Int)
def gt (y:Ye) (x:Cf):Bool:=x.d && !y.d
def qN (y:Ye) (x:Cf):Bool:=x.p && !y.p || x.c && !y.c
theorem j7 {x:Cf} (h:iv x=true):64≤x.m∧x.m≤300∧x.a<4294967296∧x.g<4294967296:=by
 simp only [iv,aK,al,Bool.and_eq_true,decide_eq_true_eq] at h;omega
theorem wk (y:Ye) (G:Nat) {x:Cf} (h:iv x=true):b_ y.m y.a G y.p y.c y.d (a7 x) =
  ne ((x.m:Int) != 300) (2,⟨1,ji x.m⟩) ++ (ne ((x.a:Int) != 4294967295) (if gM y x=true then (3,⟨2,cK (x.a ||| y.a)⟩) else (2,⟨2,cK x.a⟩)) ++ (ne ((x.g:Int) != 0) (if gN G x=true then (3,⟨5,cK (fv G)⟩) else (2,⟨5,cK x.g⟩)) ++
  (ne x.p (if y.p=true then (2,⟨7,⟨#[]⟩⟩) else (4,⟨7,⟨#[]⟩⟩)) ++ (ne x.c (if y.c=true then (2,⟨8,⟨#[]⟩⟩) else (4,⟨8,⟨#[]⟩⟩)) ++ ne x.d (if y.d=true then (2,⟨9,fu 4⟩) else (3,⟨9,fu 2⟩)))))):=by
 obtain ⟨h1,h2,h3,h4⟩:=j7 h;rw [wi _ _ _ _ _ _ (yg x),gY];simp only [List.map_append,zM];have e1:one y.m y.a G y.p y.c y.d ⟨1,ji x.m⟩=(2,⟨1,ji x.m⟩):=by
  unfold one;rw [if_pos (show bN 1=some (ji x.m).size by rfl)];have hc:jk y.a G y.p y.c y.d 1 (ax (ji x.m).data.toList)=2:=by
   rw [ld (by omega)];show gc (al 64 300 x.m) 3=2
   rw [show al 64 300 (x.m:Int)=true by unfold al;rw [decide_eq_true (by omega),decide_eq_true (by omega)];rfl];rfl
  rw [hc];rfl
 have e2:((x.a:Int) != 4294967295)=true→one y.m y.a G y.p y.c y.d ⟨2,cK x.a⟩=(if gM y x=true then (3,⟨2,cK (x.a ||| y.a)⟩) else (2,⟨2,cK x.a⟩)):=by
  intro ha;unfold one;rw [if_pos (show bN 2=some (cK x.a).size by rfl)];have hc:jk y.a G y.p y.c y.d 2 (ax (cK x.a).data.toList)=if gM y x=true then 3 else 2:=by
   rw [eg h3];show gc (((x.a ||| y.a:Nat):Int) == (x.a:Int)) 3=_
   unfold gM;rw [ha,Bool.true_and];cases hq:(((x.a ||| y.a:Nat):Int) == (x.a:Int))
   ·have:(((x.a ||| y.a:Nat):Int) != (x.a:Int))=true:=by rw [bne,hq];rfl
    rw [this];rfl
   ·have:(((x.a ||| y.a:Nat):Int) != (x.a:Int))=false:=by rw [bne,hq];rfl
    rw [this];rfl
  rw [hc];cases gM y x
  ·rfl
  ·show (3,(⟨2,nI y.m y.a G 2 (ax (cK x.a).data.toList)⟩:Op.Opt))=_
   rw [eg h3];rfl
 have e3:((x.g:Int) != 0)=true→one y.m y.a G y.p y.c y.d ⟨5,cK x.g⟩=(if gN G x=true then (3,⟨5,cK (fv G)⟩) else (2,⟨5,cK x.g⟩)):=by
  intro hg;unfold one;rw [if_pos (show bN 5=some (cK x.g).size by rfl)];have hc:jk y.a G y.p y.c y.d 5 (ax (cK x.g).data.toList)=if gN G x=true then 3 else 2:=by
   rw [eg h4];show gc ((x.g:Int) != 0 && (x.g:Int) != (G:Int)) 3=_
   unfold gN;rw [hg,Bool.true_and,Bool.true_and];cases hq:((x.g:Int) == (G:Int))
   ·have:((x.g:Int) != (G:Int))=true:=by rw [bne,hq];rfl
    rw [this];rfl
   ·have:((x.g:Int) != (G:Int))=false:=by rw [bne,hq];rfl
    rw [this];rfl
  rw [hc];cases gN G x
  ·rfl
  ·rfl
 have e4:one y.m y.a G y.p y.c y.d ⟨7,⟨#[]⟩⟩=(if y.p=true then (2,⟨7,⟨#[]⟩⟩) else (4,⟨7,⟨#[]⟩⟩)):=by
  cases y.p<;>rfl
 have e5:one y.m y.a G y.p y.c y.d ⟨8,⟨#[]⟩⟩=(if y.c=true then (2,⟨8,⟨#[]⟩⟩) else (4,⟨8,⟨#[]⟩⟩)):=by
  cases y.c<;>rfl
 have e6:one y.m y.a G y.p y.c y.d ⟨9,fu 4⟩=(if y.d=true then (2,⟨9,fu 4⟩) else (3,⟨9,fu 2⟩)):=by
  cases y.d<;>rfl
 rw [e1,e4,e5,e6];have vf:∀ (b:Bool) (u v:Int × Op.Opt),(b=true→u=v)→ne b u=ne b v:=by
  intro b u v h;cases b
  ·rfl
  ·rw [h rfl]
 rw [vf _ _ _ e2,vf _ _ _ e3]
end Go.Proofs.YtjebigodbnefiaaGreatDoor
