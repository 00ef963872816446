/- The program takes the first sent frame off a line, and puts one behind it; what lay in memory stands but for the line and its row. PppPack, the program's and the model's: of a protocol and a text its packet; what lay in memory stands. Frame, the program's and the model's: a flag, what is stuffed of a text and its Tail, a flag; what lay in memory stands; under the library's two tables as they are laid. The model's copy of an end, and its LapbAgain; what lay in memory stands. -/
import Derived.Test.YtkcghhkkepndnaaGreatDoorS06
import Derived.Test.YtkcghhkkepndnaaGreatDoorS15
import Derived.ArgAppend
import Derived.Lib.AppendStr
import Derived.Deep.DeepCutAuto
import Derived.Test.YtkcghhkkepndnaaGreatDoorS02
import Derived.Test.YtkcghhkkepndnaaGreatDoorS11
import Derived.Test.YtkcghhkkepndnaaGreatDoorS09
import Derived.Test.YtkcghhkkepndnaaGreatDoorShW
namespace Go.Proofs.YtkcghhkkepndnaaGreatDoor
open Go.RowKit
theorem slice_0 (ad:Option Addr) (n cp:Nat) (hn:n≤cp) (hc:ad=none→cp=0) (z:World):(Instr.slice 55 (.slice ad n cp) (some (.int .i64 0)) none none).run Tryz.prog z=.ok (.slice ad n cp) z:=by
 have hs:=Tryz.sizeOf82 z
 rw [run_slice_l (P:=Tryz.prog) (w:=z) 55 ad n cp (by rw [elemSf];exact Tryz.underlying55) .i64 0 (by omega) (by omega),elemSf,hs]
 cases ad with
 | none =>
  have h1:=hc rfl
  have h2:n=0:=by omega
  subst h1 h2
  simp [Result.andThen,sliced]
 | some a =>
  obtain ⟨b,o,c⟩:=a
  cases c<;>simp [Result.andThen,sliced,Addr.add]
set_option maxHeartbeats 4000000 in
set_option maxRecDepth 100000 in
theorem iLose {base:Nat} {T:TypeId} {W:World} {B:Nat} {X Z:List Value} {v:Value} {L:List Sf} (h:Wr base T W B X Z v L) :
  Calls Tryz.prog 42 #[.pointer (some ⟨B,X.length,none⟩)] W fun e W'=>e=.returned (.tuple #[])∧∃ v',Wr base T W' B X Z v' L.tail∧Fr B v v' W W':=by
 obtain ⟨v',n,n',ad,cp,m,hv,hn,hm,hs,hL',ho⟩:∃ (v':Value) (n n':Nat) (ad:Option Addr) (cp m:Nat),v=.slice ad n cp∧n≤40∧(if (n:Int)<1 then (n:Int) else 1)=(m:Int)∧(∀ z,(Instr.slice 55 (.slice ad n cp) (some (.int .i64 (m:Int))) none none).run Tryz.prog z=.ok v' z)∧HoldsK W base v' L.tail∧∀ g,v'.ownBlock=some g→v.ownBlock=some g:=by
  have hle:=h.le
  match L,h.hk with
  | [],hk =>
   obtain ⟨a,c,e⟩:=hk.form
   refine ⟨v,0,0,a,c,0,e,by omega,by simp,fun z=>?_,hk,fun _ hg=>hg⟩
   rw [e]
   refine slice_0 a 0 c (Nat.zero_le _) (fun ea=>?_) z
   rcases hk with ⟨e1,_⟩ | ⟨g,o,cp,cur,e1,_⟩
   ·rw [e1] at e;injection e with _ _ e;exact e.symm
   ·rw [e1,ea] at e;injection e with e;cases e
  | p :: P,hk =>
   obtain ⟨g,o,cp,e,_⟩:=hk.first
   obtain ⟨b,hb1,hb2,hs⟩:=slice_k g o P.length cp
   rw [e] at hk
   obtain ⟨p',P',e2,_,hk'⟩:=hk.tail hb1 hb2
   cases e2
   simp only [List.length_cons] at hle
   refine ⟨_,P.length+1,0,_,_,1,e,hle,by rw [if_neg (by omega)];rfl,hs,hk',fun g' hg=>?_⟩
   rw [e]
   rcases hb2 with rfl | rfl<;>exact hg
 have hc:=cell_blk h.row
 have hf:=frz h.row X.length
 subst hv
 obtain ⟨a2,c2,e2⟩:=hL'.form
 subst e2
 have HW:=hide h
 have HL:=hide (And.intro hL' ho)
 have HT:Hid (L.tail.length≤40):=hide (by have:=h.le;simp;omega)
 clear h hL' ho
 generalize hk:X.length=k at hc hf ⊢
 generalize hq:L.tail.length=nt at *
 have hn0:n≤9223372036854775807:=by omega
 have hm2:min (1:Int) (n:Int)=(m:Int):=by omega
 have hS:W.drew.cell? ⟨B,k,none⟩=some (.slice ad n cp):=hc
 have hF:W.drew.frozen? ⟨B,k,none⟩=false:=hf
 go_enter Tryz.func42,Tryz.ntmps42
 go_upto_region 0 with fail
 go_region
 go_wp2
 refine bodyPost_end (results_none rfl _ _ _) rfl ?_
 refine ⟨rfl,.slice a2 nt c2,?_,?_⟩
 ·rw [← hk]
  exact ((uh HW).set (uh HL).1 (by rw [hq];exact uh HT)).below (Below.refl _ _).drew
 ·exact (Fr.cells _ _ _ (fun g hg=>Or.inl ((uh HL).2 g hg)) k [_]).trans (Fr.of_below (Below.refl _ _).drew)
theorem step_append_k {W:World} {o:Oper} {a:Act} {K:Act→World→Prop} {Q:Exit→Act→World→Prop} (s x:Operand) (ho:o.op=.call { callee:=.builtin .append,args:=#[s,x],argTypes:=#[55,55] })
  {base:Nat} {v sv:Value} {P F:List Sf} (hs:a.eval s=v) (hx:a.eval x=sv) (hv:HoldsK W base v P) (hsv:HoldsP W sv F) (hP:P.length≤1000000) (hF:F.length≤1000000) (hbase:base≤W.heap.size)
  (h:∀ v' w',HoldsK w' base v' (P ++ F)→W.grownBy w' v.ownBlock→(∀ g,v'.ownBlock=some g→v.ownBlock=some g∨W.heap.size≤g)→K (a.put o.dst v') w'):o.wp Tryz.prog a W K Q:=by
 obtain ⟨v',w',hr,h2,h3,h4⟩:=run_append_k (W:=W) o.type hv hsv hP hF hbase
 unfold Oper.wp execOp
 simp only [ho,resolve,invoke,builtin,Sem.run_bind,Sem.run_pure,Result.andThen_ok,List.map_toArray,List.map_cons,List.map_nil,hs,hx,hr]
 exact h v' w' h2 h3 h4
structure Py (base:Nat) (T:TypeId) (W:World) (B A k:Nat) (X Z:List Value) (v:Value) (L:List Sf) (p:Sf) (y:World):Prop where
 w:Wr base T y B X Z v L
 fr:Fr B v v W y
 pa:y.heap[A]?=some (.cells #[.string p.text,.string p.bytes] 82)
 ek:X.length=k
structure Pz (base:Nat) (T:TypeId) (W:World) (B k:Nat) (X Z:List Value) (v v':Value) (L:List Sf) (y:World):Prop where
 row:y.heap[B]?=some (.cells (X ++ [v] ++ Z).toArray T)
 hk:HoldsK y base v' L
 fr:Fr B v v' W y
 ek:X.length=k
 bs:base≤y.heap.size
 nT:T≠82
section
variable {base:Nat} {T:TypeId} {W:World} {B A k:Nat} {X Z:List Value} {v v':Value} {L:List Sf} {p:Sf} {y y':World}
theorem Py.cx (h:Py base T W B A k X Z v L p y):y.cell? ⟨B,k,none⟩=some v:=by rw [← h.ek];exact cell_blk h.w.row
theorem Py.px (h:Py base T W B A k X Z v L p y):y.cell? ⟨A,0,none⟩=some (.string p.text)∧y.cell? ⟨A,1,none⟩=some (.string p.bytes) :=
 ⟨by rw [cr h.pa];rfl,by rw [cr h.pa];rfl⟩
theorem Py.new (h:Py base T W B A k X Z v L p y) (r:Sf):Py base T W B A k X Z v L p (y.alloc (.cells #[.string r.text,.string r.bytes] 82))∧HoldsP (y.alloc (.cells #[.string r.text,.string r.bytes] 82)) (.slice (some ⟨y.heap.size,0,none⟩) 1 1) [r]:=by
 have hb:Below y.heap.size y (y.alloc (.cells #[.string r.text,.string r.bytes] 82)):=(Below.refl _ _).alloc (Nat.le_refl _) _
 refine ⟨⟨h.w.below hb,h.fr.trans (Fr.of_below hb),(hb.block A (Array.getElem?_eq_some_iff.1 h.pa).1).trans h.pa,h.ek⟩,Or.inr ⟨_,1,_,rfl,heap_alloc_new _ _,Nat.le_refl 2,fun j hj=>?_⟩⟩
 have:j=0∨j=1:=by simp at hj;omega
 rcases this with rfl | rfl<;>rfl
theorem Py.app (h:Py base T W B A k X Z v L p y) {L':List Sf} (h1:HoldsK y' base v' L') (h2:y.grownBy y' v.ownBlock) (h3:∀ g,v'.ownBlock=some g→v.ownBlock=some g∨y.heap.size≤g):Pz base T W B k X Z v v' L' y' :=
 ⟨(h2.block B h.w.lt (fun e=>(h.w.ownB B e.symm).1 rfl)).trans h.w.row,h1,h.fr.trans (Fr.grown h2 h3),h.ek,Nat.le_trans h.w.bs h2.size,h.w.nT⟩
theorem Pz.cx (h:Pz base T W B k X Z v v' L y):y.cell? ⟨B,k,none⟩=some v:=by rw [← h.ek];exact cell_blk h.row
theorem Pz.fx (h:Pz base T W B k X Z v v' L y):y.frozen? ⟨B,k,none⟩=false:=frz h.row k
theorem Pz.fin (h:Pz base T W B k X Z v v' L y) (le:L.length≤40):Wr base T (y.setCell ⟨B,X.length,none⟩ v') B X Z v' L∧Fr B v v' W (y.setCell ⟨B,X.length,none⟩ v'):=by
 refine ⟨⟨set_blk [v] [v'] X Z y h.row rfl,h.hk.keep fun g cur hg _ h2=>heap_setCell_other _ _ _ _ (fun (e:g=B)=>?_),le,Nat.le_trans h.bs (((Below.refl 0 y).setCell (p:=⟨B,X.length,none⟩) (Nat.zero_le _) _).size),h.nT⟩,h.fr.trans (Fr.cells v' v' y (fun _ hg=>Or.inl hg) X.length [v'])⟩
 rw [e,h.row] at h2
 injection h2 with h2
 injection h2 with _ h2
 exact h.nT h2
end
set_option maxHeartbeats 4000000 in
set_option maxRecDepth 100000 in
theorem iPutW {base:Nat} {T:TypeId} {W:World} {B:Nat} {X Z:List Value} {v:Value} {L:List Sf} (h:Wr base T W B X Z v L) (p:Sf) :
  Calls Tryz.prog 56 #[.pointer (some ⟨B,X.length,none⟩),.agg #[.string p.text,.string p.bytes]] W fun e W'=>e=.returned (.tuple #[])∧∃ v',Wr base T W' B X Z v' (if L.length<40 then L ++ [p] else L)∧Fr B v v' W W':=by
 obtain ⟨ad,cp,hv⟩:=h.hk.form
 subst hv
 have hb1:Below W.heap.size W (W.alloc (.cells #[.string p.text,.string p.bytes] 82)):=(Below.refl _ _).alloc (Nat.le_refl _) _
 have hP:=heap_alloc_new W (.cells #[.string p.text,.string p.bytes] 82)
 have h1:=h.below hb1
 have hc:=cell_blk h1.row
 have HW:=hide (And.intro h1 (And.intro hb1 hP))
 have hl:L.length≤40:=h.le
 clear h h1 hb1 hP
 generalize hk:X.length=k at hc ⊢
 generalize hn:L.length=n at *
 by_cases h40:n<40
 ·rw [if_pos h40]
  go_enter Tryz.func56,Tryz.ntmps56
  go_upto_region 2 with fail
  have hL9:(L ++ [p]).length≤40:=by rw [List.length_append,hn];exact h40
  have hl9:L.length≤1000000:=by omega
  obtain ⟨A,eA⟩:∃ A,W.heap.size=A:=⟨_,rfl⟩
  have HY:Hid (Py base T W B A k X Z (.slice ad n cp) L p (W.alloc (.cells #[.string p.text,.string p.bytes] 82)).drew):=hide (by
   obtain ⟨h1,h2,h3⟩:=uh HW
   rw [eA] at h3
   exact ⟨h1.below (Below.refl _ _).drew,(Fr.of_below h2).trans (Fr.of_below (Below.refl _ _).drew),h3,hk⟩)
  rw [eA]
  refine wp_region_held_drew (S:=fun _=>True) (by kernel_rfl) trivial (fun hHeld=>?_)
  clear HW hc
  generalize (W.alloc (.cells #[.string p.text,.string p.bytes] 82)).drew=yy at HY ⊢
  refine t2 0 ?_
  refine t2 1 ?_
  refine t2 2 ?_
  refine t2 3 ?_
  refine wpAnyH_ready (rs:=[4,5]) (by kernel_rfl) (by simp) (AllReadyH.cons rfl (fun K hK=>?_) (AllReadyH.cons rfl (fun K hK=>?_) (AllReadyH.nil)))
  ·have cx:=(uh HY).cx
   go_simp
   refine ro hK trivial fun _=>?_
   clear hK K
   clear cx
   refine r1 5 rfl (fun K hK=>?_)
   obtain ⟨x0,x1⟩:=(uh HY).px
   go_simp
   refine ro hK trivial fun _=>?_
   clear hK K
   clear x0 x1
   refine r1 6 rfl (fun K hK=>?_)
   have H6:=hide ((uh HY).new p)
   go_simp
   refine ro hK trivial fun _=>?_
   clear hK K
   generalize yy.heap.size=N6 at H6 ⊢
   generalize yy.alloc (.cells #[.string p.text,.string p.bytes] 82)=y6 at H6 ⊢
   clear HY
   have H6a:=hide (uh H6).1
   refine r1 7 rfl (fun K hK=>?_)
   refine step_append_k _ _ rfl rfl rfl (uh H6).1.w.hk (uh H6).2 hl9 (by simp) (uh H6).1.w.bs ?_
   intro v7 y7 g1 g2 g3
   obtain ⟨a7,c7,e7⟩:=g1.form
   obtain ⟨n7,e9⟩:∃ n7,(L ++ [p]).length=n7:=⟨_,rfl⟩
   rw [e9] at e7
   clear e9
   subst e7
   have H7:=hide ((uh H6).1.app g1 g2 g3)
   clear g1 g2 g3 H6
   refine ro hK trivial fun _=>?_
   clear hK K
   refine t2 8 ?_
   refine t2 9 ?_
   refine r1 10 rfl (fun K hK=>?_)
   have cx:=(uh H7).cx
   have fx:=(uh H7).fx
   go_simp
   refine ro hK trivial fun _=>?_
   clear hK K
   refine dn ?_ _
   go_wp2
   refine bodyPost_end (results_none rfl _ _ _) rfl ?_
   rw [← hk]
   exact ⟨rfl,_,(uh H7).fin hL9⟩
  ·obtain ⟨x0,x1⟩:=(uh HY).px
   go_simp
   refine ro hK trivial fun _=>?_
   clear hK K
   clear x0 x1
   refine wpAnyH_ready (rs:=[4,6]) (by kernel_rfl) (by simp) (AllReadyH.cons rfl (fun K hK=>?_) (AllReadyH.cons rfl (fun K hK=>?_) (AllReadyH.nil)))
   ·have cx:=(uh HY).cx
    go_simp
    refine ro hK trivial fun _=>?_
    clear hK K
    clear cx
    refine r1 6 rfl (fun K hK=>?_)
    have H6:=hide ((uh HY).new p)
    go_simp
    refine ro hK trivial fun _=>?_
    clear hK K
    generalize yy.heap.size=N6 at H6 ⊢
    generalize yy.alloc (.cells #[.string p.text,.string p.bytes] 82)=y6 at H6 ⊢
    clear HY
    have H6a:=hide (uh H6).1
    refine r1 7 rfl (fun K hK=>?_)
    refine step_append_k _ _ rfl rfl rfl (uh H6).1.w.hk (uh H6).2 hl9 (by simp) (uh H6).1.w.bs ?_
    intro v7 y7 g1 g2 g3
    obtain ⟨a7,c7,e7⟩:=g1.form
    obtain ⟨n7,e9⟩:∃ n7,(L ++ [p]).length=n7:=⟨_,rfl⟩
    rw [e9] at e7
    clear e9
    subst e7
    have H7:=hide ((uh H6).1.app g1 g2 g3)
    clear g1 g2 g3 H6
    refine ro hK trivial fun _=>?_
    clear hK K
    refine t2 8 ?_
    refine t2 9 ?_
    refine r1 10 rfl (fun K hK=>?_)
    have cx:=(uh H7).cx
    have fx:=(uh H7).fx
    go_simp
    refine ro hK trivial fun _=>?_
    clear hK K
    refine dn ?_ _
    go_wp2
    refine bodyPost_end (results_none rfl _ _ _) rfl ?_
    rw [← hk]
    exact ⟨rfl,_,(uh H7).fin hL9⟩
   ·have H6:=hide ((uh HY).new p)
    go_simp
    refine ro hK trivial fun _=>?_
    clear hK K
    generalize yy.heap.size=N6 at H6 ⊢
    generalize yy.alloc (.cells #[.string p.text,.string p.bytes] 82)=y6 at H6 ⊢
    clear HY
    have H6a:=hide (uh H6).1
    refine r1 4 rfl (fun K hK=>?_)
    have cx:=(uh H6a).cx
    go_simp
    refine ro hK trivial fun _=>?_
    clear hK K
    clear cx
    refine r1 7 rfl (fun K hK=>?_)
    refine step_append_k _ _ rfl rfl rfl (uh H6).1.w.hk (uh H6).2 hl9 (by simp) (uh H6).1.w.bs ?_
    intro v7 y7 g1 g2 g3
    obtain ⟨a7,c7,e7⟩:=g1.form
    obtain ⟨n7,e9⟩:∃ n7,(L ++ [p]).length=n7:=⟨_,rfl⟩
    rw [e9] at e7
    clear e9
    subst e7
    have H7:=hide ((uh H6).1.app g1 g2 g3)
    clear g1 g2 g3 H6
    refine ro hK trivial fun _=>?_
    clear hK K
    refine t2 8 ?_
    refine t2 9 ?_
    refine r1 10 rfl (fun K hK=>?_)
    have cx:=(uh H7).cx
    have fx:=(uh H7).fx
    go_simp
    refine ro hK trivial fun _=>?_
    clear hK K
    refine dn ?_ _
    go_wp2
    refine bodyPost_end (results_none rfl _ _ _) rfl ?_
    rw [← hk]
    exact ⟨rfl,_,(uh H7).fin hL9⟩
 ·rw [if_neg h40]
  go_enter Tryz.func56,Tryz.ntmps56
  go_wp2
  refine bodyPost_end (results_none rfl _ _ _) rfl ?_
  exact ⟨rfl,_,(uh HW).1,Fr.of_below (uh HW).2.1⟩
end Go.Proofs.YtkcghhkkepndnaaGreatDoor
namespace Go.Proofs.YtkcghhkkepndnaaGreatDoor
open Go.RowKit
theorem head_ways (k:Nat) (a p:Bool) (P:Prop)
  (h0:k=49185→Pp.head k a p=[0xff,3] ++ [UInt8.ofNat (k / 256)] ++ [UInt8.ofNat k]→P)
  (h1:k≠49185→a=false→p=false→Pp.head k a p=[0xff,3] ++ [UInt8.ofNat (k / 256)] ++ [UInt8.ofNat k]→P)
  (h2:k≠49185→a=false→p=true→255<k→Pp.head k a p=[0xff,3] ++ [UInt8.ofNat (k / 256)] ++ [UInt8.ofNat k]→P)
  (h3:k≠49185→a=false→p=true→k≤255→Pp.head k a p=[0xff,3] ++ [UInt8.ofNat k]→P)
  (h4:k≠49185→a=true→p=false→Pp.head k a p=[UInt8.ofNat (k / 256)] ++ [UInt8.ofNat k]→P)
  (h5:k≠49185→a=true→p=true→255<k→Pp.head k a p=[UInt8.ofNat (k / 256)] ++ [UInt8.ofNat k]→P)
  (h6:k≠49185→a=true→p=true→k≤255→Pp.head k a p=[UInt8.ofNat k]→P):P:=by
 by_cases e:k=49185
 ·exact h0 e (by simp [Pp.head,e])
 ·cases a<;>cases p
  ·exact h1 e rfl rfl (by simp [Pp.head])
  ·by_cases f:255<k
   ·exact h2 e rfl rfl f (by simp [Pp.head,f])
   ·exact h3 e rfl rfl (by omega) (by simp [Pp.head,f,e])
  ·exact h4 e rfl rfl (by simp [Pp.head,e])
  ·by_cases f:255<k
   ·exact h5 e rfl rfl f (by simp [Pp.head,f,e])
   ·exact h6 e rfl rfl (by omega) (by simp [Pp.head,f,e])
theorem cell1 {x:Int} {c:UInt8} (h:x=(c.toNat:Int)):(#[Value.int .u8 x]).toList=vals [c]:=by rw [h];rfl
theorem own_conv4 {w:World} {base:Nat} {v:Value} {n:Nat} {l:List UInt8} {t:ByteArray} (h:w.ownsRow base 5 1 v n (vals l)) (hl:l.length≤4) (ht:t.size≤8000) :
  ∃ Z,Hid (Z=txt l)∧(convert 22 9 v).run Tryz.prog w=.ok (.string Z) w∧¬ (9223372036854775807<Z.size+t.size) :=
 ⟨txt l,hide rfl,own_conv h,by rw [txt_size];omega⟩
set_option maxHeartbeats 2000000 in
theorem specPack_at (k:Nat) (t:ByteArray) (a p:Bool) (w:World) (hk:k<65536) (ht:t.size≤8000) :
  Calls Tryz.prog 72 #[.int .i64 k,.string t,.bool a,.bool p] w fun e w'=>e=.returned (.string (txt (Pp.head k a p) ++ t))∧Below w.heap.size w w':=by
 have HH:=hide (hi_byte hk)
 have HL:=hide (lo_byte k)
 obtain ⟨hi,hhi⟩:∃ c,UInt8.ofNat (k / 256)=c:=⟨_,rfl⟩
 obtain ⟨lo,hlo⟩:∃ c,UInt8.ofNat k=c:=⟨_,rfl⟩
 have HW:=head_ways k a p
 rw [hhi] at HH
 rw [hlo] at HL
 rw [hhi,hlo] at HW
 clear hhi hlo
 refine HW _ (fun e r=>?_) (fun e e1 e2 r=>?_) (fun e e1 e2 e3 r=>?_) (fun e e1 e2 e3 r=>?_) (fun e e1 e2 r=>?_) (fun e e1 e2 e3 r=>?_) (fun e e1 e2 e3 r=>?_)
 all_goals
  rw [r]
  clear r HW
  first
   | (have d1:((k:Int) == 49185)=true:=by (rw [e];rfl))
   | (have d1:((k:Int) == 49185)=false:=beq_eq_false_iff_ne.2 (by omega))
  try subst e1
  try subst e2
  first
   | (have d2:decide ((255:Int)<(k:Int))=true:=decide_eq_true (by omega))
   | (have d2:decide ((255:Int)<(k:Int))=false:=decide_eq_false (by omega))
   | skip
  clear e
  go_enter Tryz.func72,Tryz.ntmps72
  go_upto_region 2 with fail
  go_cut [10] (fun v wx=>wx.ownsRow w.heap.size 5 1 v ([]:List UInt8).length (vals [])∧Below w.heap.size w wx)
  case first =>
   go_wp2_with fail
   go_meet
   exact ⟨World.ownsRow_lit w #[] 0 (by omega) (Nat.zero_le _) rfl,(Below.refl _ _).alloc (Nat.le_refl _) _⟩
  case rest =>
   obtain ⟨ho0,hb0⟩:=hcut
   have HO0:=hide ho0
   clear ho0
   have hs0:=hb0.size
   go_wp2_with (first
    | (at_builtin;refine append_bytes rfl _ _ rfl w.heap.size u10 [] [0xff,3] rfl (uh HO0) 2 rfl rfl rfl (by simp) hs0 ?_;rintro v1 w1 ho1 hb1;have HO1:=hide ho1;clear ho1 HO0;have hs1:=Nat.le_trans hs0 hb1.size)
    | (at_builtin;refine append_bytes rfl _ _ rfl w.heap.size u10 [] [hi] rfl (uh HO0) 1 rfl rfl (cell1 (uh HH)) (by simp) hs0 ?_;rintro v2 w2 ho2 hb2;have HO2:=hide ho2;clear ho2 HO0;have hs2:=Nat.le_trans hs0 hb2.size)
    | (at_builtin;refine append_bytes rfl _ _ rfl w.heap.size v1 [0xff,3] [hi] rfl (uh HO1) 1 rfl rfl (cell1 (uh HH)) (by simp) hs1 ?_;rintro v2 w2 ho2 hb2;have HO2:=hide ho2;clear ho2 HO1;have hs2:=Nat.le_trans hs1 hb2.size)
    | (at_builtin;refine append_bytes rfl _ _ rfl w.heap.size v2 _ [lo] rfl (uh HO2) 1 rfl rfl (cell1 (by first | exact uh HL | (have hl:=uh HL;omega))) (by simp) hs2 ?_;rintro v3 w3 ho3 hb3;obtain ⟨Z,hZ,hcv,hcat⟩:=own_conv4 ho3 (by simp) ht;clear ho3 HO2)
    | (at_builtin;refine append_bytes rfl _ _ rfl w.heap.size v1 [0xff,3] [lo] rfl (uh HO1) 1 rfl rfl (cell1 (by first | exact uh HL | (have hl:=uh HL;omega))) (by simp) hs1 ?_;rintro v3 w3 ho3 hb3;obtain ⟨Z,hZ,hcv,hcat⟩:=own_conv4 ho3 (by simp) ht;clear ho3 HO1)
    | (at_builtin;refine append_bytes rfl _ _ rfl w.heap.size u10 [] [lo] rfl (uh HO0) 1 rfl rfl (cell1 (by first | exact uh HL | (have hl:=uh HL;omega))) (by simp) hs0 ?_;rintro v3 w3 ho3 hb3;obtain ⟨Z,hZ,hcv,hcat⟩:=own_conv4 ho3 (by simp) ht;clear ho3 HO0))
   go_ret
   first
    | exact ⟨by rw [uh hZ];rfl,hb0.trans (hb1.trans (hb2.trans hb3))⟩
    | exact ⟨by rw [uh hZ];rfl,hb0.trans (hb1.trans hb3)⟩
    | exact ⟨by rw [uh hZ];rfl,hb0.trans (hb2.trans hb3)⟩
    | exact ⟨by rw [uh hZ];rfl,hb0.trans hb3⟩
end Go.Proofs.YtkcghhkkepndnaaGreatDoor
namespace Go.Proofs.YtkcghhkkepndnaaGreatDoor
open Go.RowKit
theorem tailB_size (l:List UInt8) (b:Bool):(tailB l b).size=tailN b:=by
 cases b
 ·exact strOfNums_size _
 ·exact strOfNums_size _
def frameV (t:ByteArray) (x:Int) (b:Bool):ByteArray:=if 1≤t.size∧t.size≤300∧accOk x=true then ⟨#[126]⟩ ++ txt (Hd.stuff x.toNat (t ++ tailB t.data.toList b).data.toList) ++ ⟨#[126]⟩ else ⟨#[]⟩
theorem stuff_sz (a:Nat) (u:ByteArray):(txt (Hd.stuff a u.data.toList)).size≤2*u.size:=by
 rw [txt_size]
 have:=Hd.stuff_len a u.data.toList
 have e:u.data.toList.length=u.size:=(Lib.size_eq u).symm
 omega
set_option maxHeartbeats 400000 in
theorem implFrame_at (t:ByteArray) (a:Nat) (b:Bool) (w:World) (h1:1≤t.size) (h2:t.size≤300) (ha:a<4294967296) (hT:Lib.Utf8Tabs 0 1 w) :
  Calls Tryz.prog 81 #[.string t,.int .i64 a,.bool b] w fun e w'=>e=.returned (.string (⟨#[126]⟩ ++ txt (Hd.stuff a (t ++ tailB t.data.toList b).data.toList) ++ ⟨#[126]⟩))∧Below w.heap.size w w':=by
 have d1:¬ ((t.size:Int)<1):=by omega
 have d2:¬ ((300:Int)<(t.size:Int)):=by omega
 have c1:=accmRight a w
 rw [accOk_nat ha] at c1
 have c2:=implTail t b w (by unfold maxLen;omega) (by omega) hT
 have hs:=tailB_size t.data.toList b
 have hb4:=tailN_le b
 generalize tailB t.data.toList b=T at *
 have hU:(t ++ T).size≤304:=by rw [ByteArray.size_append];omega
 have hcat:¬ (9223372036854775807<t.size+T.size):=by omega
 have C3:=hide fun w=>implStuff (t ++ T) a w ha (by omega)
 have hV:=stuff_sz a (t ++ T)
 obtain ⟨U,hUe⟩:∃ U,t ++ T=U:=⟨_,rfl⟩
 rw [hUe] at hU C3 hV
 rw [hUe]
 generalize txt (Hd.stuff a U.data.toList)=V at *
 have HC:=hide hcat
 have HV:=hide hV
 clear hcat hV
 go_enter Tryz.func81,Tryz.ntmps81
 go_wp2_with (first
  | (go_at_call 111;refine c1.mono ?_;rintro e w1 ⟨rfl,hw⟩;replace hw:=hw.symm;subst hw))
 refine c2.mono ?_
 rintro e w2 ⟨rfl,hb2⟩
 have hcat:=uh HC
 go_wp2_with fail
 refine (uh C3 _).mono ?_
 rintro e w3 ⟨rfl,hb3⟩
 clear hcat HC hUe
 have hV:=uh HV
 have hcat2:¬ (9223372036854775807<(ByteArray.mk #[126]).size+V.size):=by rw [show (ByteArray.mk #[126]).size=1 from rfl];omega
 obtain ⟨Z,hZ⟩:∃ Z,ByteArray.mk #[126] ++ V=Z:=⟨_,rfl⟩
 have hZs:Z.size=1+V.size:=by rw [← hZ,ByteArray.size_append];rfl
 have hcat3:¬ (9223372036854775807<Z.size+(ByteArray.mk #[126]).size):=by rw [show (ByteArray.mk #[126]).size=1 from rfl];omega
 clear hZs
 go_wp2
 go_ret
 exact ⟨by rw [hZ];rfl,hb2.trans (hb3.mono hb2.size)⟩
set_option maxHeartbeats 400000 in
theorem specFrame_at (t:ByteArray) (a:Nat) (b:Bool) (w:World) (h1:1≤t.size) (h2:t.size≤300) (ha:a<4294967296) :
  Calls Tryz.prog 74 #[.string t,.int .i64 a,.bool b] w fun e w'=>e=.returned (.string (⟨#[126]⟩ ++ txt (Hd.stuff a (t ++ tailB t.data.toList b).data.toList) ++ ⟨#[126]⟩))∧Below w.heap.size w w':=by
 have d1:¬ ((t.size:Int)<1):=by omega
 have d2:¬ ((300:Int)<(t.size:Int)):=by omega
 have c1:=specAccm a w
 rw [accOk_nat ha] at c1
 have c2:=specTail t b w (by unfold maxLen;omega)
 have hs:=tailB_size t.data.toList b
 have hb4:=tailN_le b
 generalize tailB t.data.toList b=T at *
 have hU:(t ++ T).size≤304:=by rw [ByteArray.size_append];omega
 have hcat:¬ (9223372036854775807<t.size+T.size):=by omega
 have C3:=hide fun w=>specStuff (t ++ T) a w ha (by omega)
 have hV:=stuff_sz a (t ++ T)
 obtain ⟨U,hUe⟩:∃ U,t ++ T=U:=⟨_,rfl⟩
 rw [hUe] at hU C3 hV
 rw [hUe]
 generalize txt (Hd.stuff a U.data.toList)=V at *
 have HC:=hide hcat
 have HV:=hide hV
 clear hcat hV
 go_enter Tryz.func74,Tryz.ntmps74
 go_wp2_with (first
  | (go_at_call 99;refine c1.mono ?_;rintro e w1 ⟨rfl,hw⟩;replace hw:=hw.symm;subst hw))
 refine c2.mono ?_
 rintro e w2 ⟨rfl,hb2⟩
 have hcat:=uh HC
 go_wp2_with fail
 refine (uh C3 _).mono ?_
 rintro e w3 ⟨rfl,hb3⟩
 clear hcat HC hUe
 have hV:=uh HV
 have hcat2:¬ (9223372036854775807<(ByteArray.mk #[126]).size+V.size):=by rw [show (ByteArray.mk #[126]).size=1 from rfl];omega
 obtain ⟨Z,hZ⟩:∃ Z,ByteArray.mk #[126] ++ V=Z:=⟨_,rfl⟩
 have hZs:Z.size=1+V.size:=by rw [← hZ,ByteArray.size_append];rfl
 have hcat3:¬ (9223372036854775807<Z.size+(ByteArray.mk #[126]).size):=by rw [show (ByteArray.mk #[126]).size=1 from rfl];omega
 clear hZs
 go_wp2
 go_ret
 exact ⟨by rw [hZ];rfl,hb2.trans (hb3.mono hb2.size)⟩
set_option maxHeartbeats 400000 in
theorem implFrameAll (t:ByteArray) (x:Int) (b:Bool) (w:World) (ht:t.size≤maxLen) (hT:Lib.Utf8Tabs 0 1 w) :
  Calls Tryz.prog 81 #[.string t,.int .i64 x,.bool b] w fun e w'=>e=.returned (.string (frameV t x b))∧Below w.heap.size w w':=by
 unfold maxLen at ht
 by_cases h1:1≤t.size
 ·by_cases h2:t.size≤300
  ·by_cases hx:accOk x=true
   ·obtain ⟨a,rfl,ha⟩:=accOk_get hx
    rw [show frameV t a b=_ from if_pos ⟨h1,h2,hx⟩,Int.toNat_natCast]
    exact implFrame_at t a b w h1 h2 ha hT
   ·rw [show frameV t x b=_ from if_neg fun h=>hx h.2.2]
    have d1:¬ ((t.size:Int)<1):=by omega
    have d2:¬ ((300:Int)<(t.size:Int)):=by omega
    have c1:=accmRight x w
    rw [Bool.not_eq_true] at hx
    rw [hx] at c1
    go_enter Tryz.func81,Tryz.ntmps81
    go_wp2_with (first
     | (go_at_call 111;refine c1.mono ?_;rintro e w1 ⟨rfl,rfl⟩))
    go_ret
    exact ⟨rfl,Below.refl _ _⟩
  ·rw [show frameV t x b=_ from if_neg fun h=>h2 h.2.1]
   have d1:¬ ((t.size:Int)<1):=by omega
   have d2:(300:Int)<(t.size:Int):=by omega
   go_enter Tryz.func81,Tryz.ntmps81
   go_wp2
   go_ret
   exact ⟨rfl,Below.refl _ _⟩
 ·rw [show frameV t x b=_ from if_neg fun h=>h1 h.1]
  have d1:(t.size:Int)<1:=by omega
  go_enter Tryz.func81,Tryz.ntmps81
  go_wp2
  go_ret
  exact ⟨rfl,Below.refl _ _⟩
set_option maxHeartbeats 400000 in
theorem specFrameAll (t:ByteArray) (x:Int) (b:Bool) (w:World) (ht:t.size≤maxLen) :
  Calls Tryz.prog 74 #[.string t,.int .i64 x,.bool b] w fun e w'=>e=.returned (.string (frameV t x b))∧Below w.heap.size w w':=by
 unfold maxLen at ht
 by_cases h1:1≤t.size
 ·by_cases h2:t.size≤300
  ·by_cases hx:accOk x=true
   ·obtain ⟨a,rfl,ha⟩:=accOk_get hx
    rw [show frameV t a b=_ from if_pos ⟨h1,h2,hx⟩,Int.toNat_natCast]
    exact specFrame_at t a b w h1 h2 ha
   ·rw [show frameV t x b=_ from if_neg fun h=>hx h.2.2]
    have d1:¬ ((t.size:Int)<1):=by omega
    have d2:¬ ((300:Int)<(t.size:Int)):=by omega
    have c1:=specAccm x w
    rw [Bool.not_eq_true] at hx
    rw [hx] at c1
    go_enter Tryz.func74,Tryz.ntmps74
    go_wp2_with (first
     | (go_at_call 99;refine c1.mono ?_;rintro e w1 ⟨rfl,rfl⟩))
    go_ret
    exact ⟨rfl,Below.refl _ _⟩
  ·rw [show frameV t x b=_ from if_neg fun h=>h2 h.2.1]
   have d1:¬ ((t.size:Int)<1):=by omega
   have d2:(300:Int)<(t.size:Int):=by omega
   go_enter Tryz.func74,Tryz.ntmps74
   go_wp2
   go_ret
   exact ⟨rfl,Below.refl _ _⟩
 ·rw [show frameV t x b=_ from if_neg fun h=>h1 h.1]
  have d1:(t.size:Int)<1:=by omega
  go_enter Tryz.func74,Tryz.ntmps74
  go_wp2
  go_ret
  exact ⟨rfl,Below.refl _ _⟩
end Go.Proofs.YtkcghhkkepndnaaGreatDoor
namespace Go.Proofs.YtkcghhkkepndnaaGreatDoor
open Go.RowKit
def RoomS (w:World) (v:Value):Prop :=
 v=.slice none 0 0∨∃ g o n cp cur,v=.slice (some ⟨g,o,none⟩) n cp∧w.heap[g]?=some (.cells cur 9)∧n≤cp∧o+cp≤cur.size
def HoldsR (w:World) (v:Value) (L:List ByteArray):Prop:=HoldsS w v L∧RoomS w v
theorem RoomS.other {w w':World} {v:Value} (h:RoomS w v) (hw:∀ g cur,v.ownBlock=some g→w.heap[g]?=some (.cells cur 9)→w'.heap[g]?=w.heap[g]?):RoomS w' v:=by
 rcases h with h | ⟨g,o,n,cp,cur,h1,h2,h3⟩
 ·exact Or.inl h
 ·exact Or.inr ⟨g,o,n,cp,cur,h1,(hw g cur (by rw [h1];rfl) h2).trans h2,h3⟩
theorem HoldsR.other {w w':World} {v:Value} {L:List ByteArray} (h:HoldsR w v L) (hw:∀ g cur,v.ownBlock=some g→w.heap[g]?=some (.cells cur 9)→w'.heap[g]?=w.heap[g]?):HoldsR w' v L:=⟨h.1.other hw,h.2.other hw⟩
theorem HoldsR.below {w w':World} {v:Value} {L:List ByteArray} (h:HoldsR w v L) (hb:Below w.heap.size w w'):HoldsR w' v L :=
 h.other fun g _ _ e=>hb.block g (Array.getElem?_eq_some_iff.1 e).1
theorem HoldsR.form {w:World} {v:Value} {L:List ByteArray} (h:HoldsR w v L):∃ ad cp,v=.slice ad L.length cp:=h.1.form
theorem holdsR_nil (w:World):HoldsR w (.slice none 0 0) []:=⟨holdsS_nil _ _ _,Or.inl rfl⟩
theorem HoldsR.own {w:World} {base:Nat} {v:Value} {L:List ByteArray} (h:w.ownsRow base 9 1 v L.length (scells L)):HoldsR w v L:=by
 refine ⟨(HoldsT.own h).s,?_⟩
 rcases h.2 with ⟨h1,_⟩ | ⟨g,cap,cur,h1,_,h3,h4,_,h6,_⟩
 ·exact Or.inl h1
 ·exact Or.inr ⟨g,0,L.length,cap,cur,h1,h3,h4,by omega⟩
def AnsW (w0:World) (o:LO) (e:Ending) (q:World):Prop :=
 ∃ v vf vg,e=.returned (.agg (loC o.p v vf vg o.cd))∧HoldsR q v o.Q∧HoldsN q vf o.sn∧HoldsS q vg o.gt∧(∀ g,v.ownBlock=some g→w0.heap.size≤g)∧(∀ g,vf.ownBlock=some g→w0.heap.size≤g)∧(∀ g,vg.ownBlock=some g→w0.heap.size≤g)∧Below w0.heap.size w0 q
theorem HoldsN.other {w w':World} {v:Value} {L:List Nb} (h:HoldsN w v L) (hw:∀ g cur,v.ownBlock=some g→w.heap[g]?=some (.cells cur 96)→w'.heap[g]?=w.heap[g]?):HoldsN w' v L:=by
 rcases h with ⟨ad,cp,h1,h2⟩ | ⟨g,cp,cur,h1,h2,h3⟩
 ·exact Or.inl ⟨ad,cp,h1,h2⟩
 ·exact Or.inr ⟨g,cp,cur,h1,(hw g cur (by rw [h1];rfl) h2).trans h2,h3⟩
set_option maxHeartbeats 4000000 in
theorem sCopyL (p:Lp) (x:Option Addr) (y:Nat) (L:List ByteArray) (w:World) (hl:L.length≤1048576) (h:HoldsS w (.slice x L.length y) L) :
  Calls Tryz.prog 70 #[.agg (lpC p (.slice x L.length y))] w fun e w'=>∃ ua uc,e=.returned (.agg (lpC p (.slice ua L.length uc)))∧w'.ownsRow w.heap.size 9 1 (.slice ua L.length uc) L.length (scells L)∧Below w.heap.size w w':=by
 obtain ⟨hN0,hN1,hN2,hbW,hsW⟩:=new3l w (.cells (lpC p (.slice x L.length y)) 54) (.cells #[.int .i64 0,.int .i64 0,.int .i64 0,.int .i64 0,.slice none 0 0,.bool false] 54) (.cells #[] 9)
 obtain ⟨wi,vs,va,vr,ak⟩:=p
 unfold lpC at hN0 hN1 hN2 hbW hsW ⊢
 dsimp only at *
 have hs3:=h.below hbW
 have hbw:=hbW.size
 have hown:World.ownsRow _ w.heap.size 9 1 (.slice (some ⟨w.heap.size+1+1,0,none⟩) 0 0) ([]:List ByteArray).length (scells []):=⟨rfl,Or.inr ⟨w.heap.size+1+1,0,#[],rfl,by omega,hN2,Nat.le_refl _,Nat.zero_le _,rfl,rfl⟩⟩
 generalize hn:L.length=n at *
 have H0:=hide (And.intro hN0 (And.intro hN1 (And.intro hbW (And.intro hsW (And.intro hs3 hown)))))
 clear hN0 hN1 hN2 hbW hsW hs3 h hown
 go_enter Tryz.func70,Tryz.ntmps70
 go_wp2_with (first
  | (at_builtin;refine append_ts rfl _ _ rfl w.heap.size _ _ [] L rfl rfl ?h1 ?h2 ?h3 ?h4 ?h5 ?h6))
 case h1=>exact (uh H0).2.2.2.2.2
 case h2=>exact (uh H0).2.2.2.2.1
 case h3=>simp
 case h4=>omega
 case h5 =>
  rw [(uh H0).2.2.2.1];omega
 rintro v4 w4 ho4 hg4
 obtain ⟨ua,uc,rfl⟩:=own_form ho4
 have hB4:Below w.heap.size w w4:=(uh H0).2.2.1.grown hg4 (by rw [(uh H0).2.2.2.1];omega) (fun k hk=>by have e':w.heap.size+1+1=k:=Option.some.inj hk;omega)
 have kg:=fun (k:Nat) (hk:k<w.heap.size+1+1)=>hg4.block k (by rw [(uh H0).2.2.2.1];omega) (fun e=>by have e':k=w.heap.size+1+1:=Option.some.inj e;omega)
 have k0:=(kg w.heap.size (by omega)).trans (uh H0).1
 have k1:=(kg (w.heap.size+1) (by omega)).trans (uh H0).2.1
 have hlo:=fun g hg=>(ho4.lt g hg).1
 have HX:=hide (And.intro ho4 (And.intro hB4 (And.intro k0 k1)))
 obtain ⟨a0,a1,a2,a3,a4,a5⟩:=row6l k0
 obtain ⟨r0,r1,r2,r3,r4,r5⟩:=row6l k1
 obtain ⟨f0,f1,f2,f3,f4,f5⟩:=frz6l k1
 have p4:=frz k0 4
 have n1:¬ (w.heap.size=w.heap.size+1):=by omega
 have n2:¬ (w.heap.size+1=w.heap.size):=by omega
 clear ho4 hg4 hB4 kg k0 k1 H0 hlo
 go_wp2
 obtain ⟨ho4,hB4,k0,k1⟩:=uh HX
 refine bodyPost_ret (v:=.agg #[.int .i64 wi,.int .i64 vs,.int .i64 va,.int .i64 vr,.slice ua n uc,.bool ak]) (by simp [results,Tryz.results70,asAddr,loadL (set6_lp ((heap_setCell_other w4 ⟨w.heap.size,4,none⟩ (w.heap.size+1) (.slice ua n uc) (by show w.heap.size+1≠w.heap.size;omega)).trans k1) (.int .i64 wi) (.int .i64 vs) (.int .i64 va) (.int .i64 vr) (.slice ua n uc) (.bool ak))]) rfl ?_
 refine ⟨ua,uc,rfl,own_at ho4 (fun g cur _ h2=>?_),set6_lb (hB4.setCell (p:=⟨w.heap.size,4,none⟩) (Nat.le_refl _) _) (by omega) _ _ _ _ _ _⟩
 have g0:g≠w.heap.size:=fun e=>by rw [e,k0] at h2;cases h2
 have g1:g≠w.heap.size+1:=fun e=>by rw [e,k1] at h2;cases h2
 have f:∀ (V:World) (i:Nat) (x:Value),(V.setCell ⟨w.heap.size+1,i,none⟩ x).heap[g]?=V.heap[g]?:=fun V i x=>heap_setCell_other _ _ _ _ g1
 rw [f,f,f,f,f,f]
 exact heap_setCell_other _ _ _ _ g0
end Go.Proofs.YtkcghhkkepndnaaGreatDoor
