/- LwDn -/
import Derived.Test.YtahpjlbaagkdoaaGreatDoorS41
import Derived.Test.YtahpjlbaagkdoaaGreatDoorS32
import Derived.Test.YtahpjlbaagkdoaaGreatDoorS42
import Derived.Test.YtahpjlbaagkdoaaGreatDoorS43
set_option maxHeartbeats 8000000
set_option maxRecDepth 100000
namespace Go.Proofs.YtahpjlbaagkdoaaGreatDoor
open Go.RowKit Go.Proofs.Tryz
def EqP:Prop:=(∀ (x y:Int) (t:ByteArray) (W:World),(binOp .neq 35 (.agg #[.int .i64 x,.int .i64 y,.string t]) (.agg #[.int .i64 x,.int .i64 y,.string t])).run prog W=.ok (.bool false) W) ∧
 ∀ (x y:Operand) (xs ys:Array Value) (W:World),(eqGuard .neq 35 x y (.agg xs) (.agg ys)).run prog W=.ok () W
structure DnI (w:World) (c0 cs ds:Array Value) (q:World):Prop where
 z:q.heap[w.heap.size]?=some (.cells c0 29)
 a:q.heap[w.heap.size+1]?=some (.cells cs 42)
 b:q.heap[w.heap.size+1+1]?=some (.cells ds 42)
 l:Below w.heap.size w q
theorem DnI.step {w:World} {c0 cs ds:Array Value} {q q':World} (h:DnI w c0 cs ds q) (hb:Below q.heap.size q q'):DnI w c0 cs ds q' :=
 ⟨(hb.block _ (ge.1 h.z).1).trans h.z,(hb.block _ (ge.1 h.a).1).trans h.a,(hb.block _ (ge.1 h.b).1).trans h.b,h.l.trans (hb.mono h.l.size)⟩
theorem DnI.start (w:World) (c0 cs ds:Array Value):DnI w c0 cs ds (((w.alloc (.cells c0 29)).alloc (.cells cs 42)).alloc (.cells ds 42)):=by
 have s1:(w.alloc (.cells c0 29)).heap.size=w.heap.size+1:=by simp
 have s2:((w.alloc (.cells c0 29)).alloc (.cells cs 42)).heap.size=w.heap.size+1+1:=by simp
 have e0:=heap_alloc_new w (.cells c0 29);have e1:=heap_alloc_new (w.alloc (.cells c0 29)) (.cells cs 42);have e2:=heap_alloc_new ((w.alloc (.cells c0 29)).alloc (.cells cs 42)) (.cells ds 42);rw [s1] at e1;rw [s2] at e2;refine ⟨?_,?_,e2,?_⟩
 ·exact (Below.heap_alloc _ _ _ (by rw [s2];omega)).trans ((Below.heap_alloc _ _ _ (by rw [s1];omega)).trans e0)
 ·exact (Below.heap_alloc _ _ _ (by rw [s2];omega)).trans e1
 ·exact (((Below.refl _ _).alloc (Nat.le_refl _) _).alloc (by rw [s1];omega) _).alloc (by rw [s2];omega) _
theorem DnI.draws {w:World} {c0 cs ds:Array Value} {q:World} (h:DnI w c0 cs ds q) (k:Nat):DnI w c0 cs ds (q.drewN k) :=
 ⟨h.z,h.a,h.b,⟨h.l.os,h.l.tape,h.l.output,h.l.size,h.l.block⟩⟩
theorem HoldsP.at {w:World} {ad:Option Addr} {n cp:Nat} {S:List Op.Pk} (h:HoldsP w (.slice ad n cp) S) {i:Nat} (hi:i<S.length):∃ g,ad=some ⟨g,0,none⟩∧∀ W,Below w.heap.size w W→W.cell? ⟨g,i*3,none⟩=some (.int .i64 S[i].code)∧W.cell? ⟨g,i*3+1,none⟩=some (.int .i64 S[i].id)∧W.cell? ⟨g,i*3+2,none⟩=some (.string S[i].data):=by
 rcases h with ⟨_,_,_,e⟩ | ⟨g,cp',cur,e,q1,q2,q3⟩
 ·rw [e] at hi;exact absurd hi (Nat.not_lt_zero _)
 ·injection e with e1 e2 e3;refine ⟨g,e1,fun W hb=>?_⟩;have e4:=(hb.block g (ge.1 q1).1).trans q1;have k:=pkcells_get S i S[i] (List.getElem?_eq_getElem hi);rw [cr e4,cr e4,cr e4];exact ⟨(q3 _ (by omega)).trans k.1,(q3 _ (by omega)).trans k.2.1,(q3 _ (by omega)).trans k.2.2⟩
theorem HoldsT.at {w:World} {ad:Option Addr} {n cp:Nat} {L:List ByteArray} (h:HoldsT w (.slice ad n cp) L) {i:Nat} (hi:i<L.length):∃ g,ad=some ⟨g,0,none⟩∧∀ W,Below w.heap.size w W→W.cell? ⟨g,i,none⟩=some (.string L[i]):=by
 rcases h with ⟨_,_,_,e⟩ | ⟨g,cp',cur,e,q1,q2,q3⟩
 ·rw [e] at hi;exact absurd hi (Nat.not_lt_zero _)
 ·injection e with e1 e2 e3;refine ⟨g,e1,fun W hb=>?_⟩;have e4:=(hb.block g (ge.1 q1).1).trans q1;rw [cr e4];exact (q3 _ hi).trans (scells_get L i _ (List.getElem?_eq_getElem hi))
theorem readG {ops:Array Oper} {rest:List Oper} {o:Oper} {a:Act} {w:World} {Q:Exit→Act→World→Prop} (hw:Region.wanted o (yielded ops a.tmps)=true) (v:Value) (hrun:(execOp a.eval o).run prog w=.ok (.value v) w)
  (h:wpList prog ops Q rest (a.put o.dst v) w):wpList prog ops Q (o :: rest) a w :=
 load_rowG hw v (fun K hk=>by unfold Oper.wp;rw [hrun];exact hk) h
theorem lwDn_of (e0 e:En) (cd:Int) (z1 z2 x1 x2 x3 x4 x5 x6 x7 x8:Option Addr) (k1 k2 u1 u2 y1 y2 y3 y4 y5 y6 y7 y8:Nat) (F1 F2:List Op.Opt) (S:List Op.Pk) (D:List ByteArray) (w:World) (l1:F1.length≤2000) (l2:F2.length≤2000) (l3:S.length≤100000) (l4:D.length≤100000)
  (h1:HoldsO w (.slice x1 F1.length y1) F1) (h2:HoldsO w (.slice x2 F2.length y2) F2) (h3:HoldsO w (.slice x3 F1.length y3) F1) (h4:HoldsO w (.slice x4 F2.length y4) F2)
  (h5:HoldsP w (.slice x5 S.length y5) S) (h6:HoldsP w (.slice x6 S.length y6) S) (h7:HoldsT w (.slice x7 D.length y7) D) (h8:HoldsT w (.slice x8 D.length y8) D) (hP:EqP) (hr:Ok9 e0 ⟨e,F1,F2,S,D,cd⟩) :
  Calls prog 8 #[.agg (enC e0 (.slice z1 k1 u1) (.slice z2 k2 u2)),.agg (eoC e (.slice x1 F1.length y1) (.slice x2 F2.length y2) (.slice x5 S.length y5) (.slice x7 D.length y7) cd),.agg (eoC e (.slice x3 F1.length y3) (.slice x4 F2.length y4) (.slice x6 S.length y6) (.slice x8 D.length y8) cd)] w fun r w'=>r=.returned (.bool true)∧Below w.heap.size w w':=by
 have C1:=hide fun W (hb:Below w.heap.size w W)=>lwEn e (.slice x1 F1.length y1) (.slice x2 F2.length y2) (.slice x3 F1.length y3) (.slice x4 F2.length y4) F1 F2 W l1 l2 (h1.below hb rfl) (h2.below hb rfl) (h3.below hb rfl) (h4.below hb rfl)
 have CE1:Hid (cd=0→∀ W (_:Below w.heap.size w W),Calls prog 34 #[.agg (enC e (.slice x1 F1.length y1) (.slice x2 F2.length y2))] W fun r w'=>r=.returned (.bool true)∧Below W.heap.size W w'):=by
  refine hide fun h0 W hb=>?_
  have:=specEndRight e x1 x2 y1 y2 F1 F2 W (by unfold maxLen;omega) (by unfold maxLen;omega) (h1.below hb rfl) (h2.below hb rfl)
  rw [(hr.yes h0).1] at this;exact this
 have CE2:Hid (cd=0→∀ W (_:Below w.heap.size w W),Calls prog 35 #[.agg (enC e (.slice x1 F1.length y1) (.slice x2 F2.length y2))] W fun r w'=>r=.returned (.bool true)∧Below W.heap.size W w'):=by
  refine hide fun h0 W hb=>?_
  have:=implEndRight_of e x1 x2 y1 y2 F1 F2 W (by unfold maxLen;omega) (by unfold maxLen;omega) (h1.below hb rfl) (h2.below hb rfl) eqL
  rw [(hr.yes h0).1] at this;exact this
 have CT1:Hid (cd=0→∀ W (_:Below w.heap.size w W),Calls prog 36 #[.slice x7 D.length y7,.string ⟨#[116,108,117]⟩] W fun r w'=>r=.returned (.bool (e.up && !e0.up))∧Below W.heap.size W w'):=by
  refine hide fun h0 W hb=>(lwInT _ D _ W (by omega) (h7.below hb rfl)).mono ?_
  rintro r w' ⟨rfl,rfl⟩;exact ⟨by rw [(hr.yes h0).2.1];rfl,Below.refl _ _⟩
 have CT2:Hid (cd=0→∀ W (_:Below w.heap.size w W),Calls prog 36 #[.slice x7 D.length y7,.string ⟨#[116,108,100]⟩] W fun r w'=>r=.returned (.bool (e0.up && !e.up))∧Below W.heap.size W w'):=by
  refine hide fun h0 W hb=>(lwInT _ D _ W (by omega) (h7.below hb rfl)).mono ?_
  rintro r w' ⟨rfl,rfl⟩;exact ⟨by rw [(hr.yes h0).2.2];rfl,Below.refl _ _⟩
 obtain ⟨m1,a1,g1,p1,c1,d1,m2,a2,g2,p2,c2,d2,st,tr,du,id,fl,up,i1,i2,i3,i4,i5,o1,o2,o3,o4,o5⟩:=e;obtain ⟨C0,hC0⟩:∃ C,enC e0 (.slice z1 k1 u1) (.slice z2 k2 u2)=C:=⟨_,rfl⟩;have hzz:C0.size=30∧C0[19]?=some (.bool e0.up):=by rw [← hC0];exact ⟨rfl,rfl⟩
 rw [hC0];unfold eoC at ⊢;unfold enC at C1 CE1 CE2;dsimp only at C1 CE1 CE2 CT1 CT2 ⊢;have HI:=hide fun cs ds=>DnI.start w C0 cs ds
 go_enter func8,ntmps8
 go_upto_region 1 with fail
 refine gen_world (fun q=>DnI w C0 _ _ q) (uh HI _ _) ?_;clear HI;rintro q hq;have rA:=range30 hq.a;have rB:=range30 hq.b;have c32:q.cell? ⟨w.heap.size+1,32,none⟩=some (.int .i64 cd):=by rw [cr hq.a];rfl
 have e32:q.cell? ⟨w.heap.size+1+1,32,none⟩=some (.int .i64 cd):=by rw [cr hq.b];rfl
 have HQ:=hide hq;clear hq h1 h2 h3 h4;apply wp_region_lit
 refine Great.wpList_readTo rfl (some 9) rfl (.pointer (some ⟨w.heap.size+1,32,none⟩)) (by kernel_rfl) ?_;refine Great.wpList_readTo rfl (some 10) rfl (.int .i64 cd) (by go_simp) ?_;refine Great.wpList_readTo rfl (some 11) rfl (.pointer (some ⟨w.heap.size+1+1,32,none⟩)) (by kernel_rfl) ?_;refine Great.wpList_readTo rfl (some 12) rfl (.int .i64 cd) (by go_simp) ?_;refine Great.wpList_readTo rfl (some 13) rfl (.bool false) (by go_simp) ?_;refine Great.wpList_readTo rfl (some 14) rfl (.bool false) (by go_simp) ?_;simp only [Act.put,List.setIfInBounds_toArray,List.set_cons_zero,List.set_cons_succ];refine readG (by rfl) (.pointer (some ⟨w.heap.size+1,0,none⟩)) (by kernel_rfl) ?_;refine load_rowG (by rfl) _ (fun K hk=>wp_load_mid 29 (.tmp 15) rfl (w.heap.size+1) 0 rfl _ _ rA underlying29 rfl infoE hk) ?_;refine readG (by rfl) (.pointer (some ⟨w.heap.size+1+1,0,none⟩)) (by kernel_rfl) ?_;refine load_rowG (by rfl) _ (fun K hk=>wp_load_mid 29 (.tmp 17) rfl (w.heap.size+1+1) 0 rfl _ _ rB underlying29 rfl infoE hk) ?_;simp only [Act.put,List.setIfInBounds_toArray,List.set_cons_zero,List.set_cons_succ];clear rA rB c32 e32;go_wp2_with fail
 refine (uh C1 _ (uh HQ).l).mono ?_;rintro r w1 ⟨rfl,hb1⟩;have hq1:=(uh HQ).step hb1;clear HQ hb1;have c30:w1.cell? ⟨w.heap.size+1,30,none⟩=some (.slice x5 S.length y5):=by rw [cr hq1.a];rfl
 have e30:w1.cell? ⟨w.heap.size+1+1,30,none⟩=some (.slice x6 S.length y6):=by rw [cr hq1.b];rfl
 have c31:w1.cell? ⟨w.heap.size+1,31,none⟩=some (.slice x7 D.length y7):=by rw [cr hq1.a];rfl
 have e31:w1.cell? ⟨w.heap.size+1+1,31,none⟩=some (.slice x8 D.length y8):=by rw [cr hq1.b];rfl
 have HQ1:=hide hq1;clear hq1;go_wp2_with fail
 have HS:=hide (And.intro h5 h6);have HD:=hide (And.intro h7 h8);have HP:=hide hP;clear h5 h6 h7 h8 hP c30 e30 c31 e31;go_loopw [7] (fun y wr=>∃ (i:Nat),i≤S.length∧y=.int .i64 i∧DnI w C0 _ _ wr) (fun y _=>S.length - (intOf y).toNat)
 case atStart=>exact ⟨0,Nat.zero_le _,rfl,uh HQ1⟩
 case round =>
  obtain ⟨i,hi,rfl,hq⟩:=hrel;have c30:wr.cell? ⟨w.heap.size+1,30,none⟩=some (.slice x5 S.length y5):=by rw [cr hq.a];rfl
  have e30:wr.cell? ⟨w.heap.size+1+1,30,none⟩=some (.slice x6 S.length y6):=by rw [cr hq.b];rfl
  have HB:=hide fun k=>hq.draws k
  have HQ:=hide hq;by_cases hlt:i<S.length
  ·have dd1:(i:Int)<(S.length:Int):=by omega
   obtain ⟨b1,rfl,k1⟩:=(uh HS).1.at hlt;obtain ⟨b2,rfl,k2⟩:=(uh HS).2.at hlt;obtain ⟨n1,n2,n3⟩:=k1 wr hq.l;obtain ⟨n4,n5,n6⟩:=k2 wr hq.l;have q1:=(uh HP).1 S[i].code S[i].id S[i].data;have q2:=(uh HP).2;clear k1 k2 hq;go_wp2_with fail
   go_quiet (fail)
   go_wp2
   go_roundw
   case rel=>exact ⟨i+1,by omega,by go_num,uh HB _⟩
   case measure=>simp [intOf];omega
  ·have e:i=S.length:=by omega
   have dd1:¬ ((i:Int)<(S.length:Int)):=by omega
   go_wp2_with fail
   clear c30 e30 dd1 hq HB;go_loopw [8] (fun y wr=>∃ (i:Nat),i≤D.length∧y=.int .i64 i∧DnI w C0 _ _ wr) (fun y _=>D.length - (intOf y).toNat)
   case atStart=>exact ⟨0,Nat.zero_le _,rfl,uh HQ⟩
   case round =>
    obtain ⟨j,hj,rfl,hq⟩:=hrel;have c31:wr.cell? ⟨w.heap.size+1,31,none⟩=some (.slice x7 D.length y7):=by rw [cr hq.a];rfl
    have e31:wr.cell? ⟨w.heap.size+1+1,31,none⟩=some (.slice x8 D.length y8):=by rw [cr hq.b];rfl
    have HB:=hide fun k=>hq.draws k
    have HQ:=hide hq;by_cases hlt:j<D.length
    ·have dd1:(j:Int)<(D.length:Int):=by omega
     obtain ⟨b1,rfl,k1⟩:=(uh HD).1.at hlt;obtain ⟨b2,rfl,k2⟩:=(uh HD).2.at hlt;have n1:=k1 wr hq.l;have n2:=k2 wr hq.l;clear k1 k2 hq;go_wp2_with fail
     go_quiet (fail)
     go_wp2
     go_roundw
     case rel=>exact ⟨j+1,by omega,by go_num,uh HB _⟩
     case measure=>simp [intOf];omega
    ·have e:j=D.length:=by omega
     have dd1:¬ ((j:Int)<(D.length:Int)):=by omega
     have c32:wr.cell? ⟨w.heap.size+1,32,none⟩=some (.int .i64 cd):=by rw [cr hq.a];rfl
     have c30:wr.cell? ⟨w.heap.size+1,30,none⟩=some (.slice x5 S.length y5):=by rw [cr hq.a];rfl
     by_cases hcd:cd=0
     ·subst hcd;replace CE1:=hide (uh CE1 rfl);replace CE2:=hide (uh CE2 rfl);replace CT1:=hide (uh CT1 rfl);replace CT2:=hide (uh CT2 rfl);go_upto_region 15 with fail
      obtain ⟨SS,hH,G1,G2,G3,G4,G5,G6⟩:∃ SS:World→Prop,SS wr.drew∧Hid (∀ z,SS z→z.rangeAt (w.heap.size+1) 0 [.int .i64 m1,.int .i64 a1,.int .i64 g1,.bool p1,.bool c1,.bool d1,.int .i64 m2,.int .i64 a2,.int .i64 g2,.bool p2,.bool c2,.bool d2,.int .i64 st,.int .i64 tr,.int .i64 du,.int .i64 id,.int .i64 fl,.slice x1 F1.length y1,.slice x2 F2.length y2,.bool up,.int .i64 i1,.int .i64 i2,.bool i3,.bool i4,.bool i5,.int .i64 o1,.int .i64 o2,.bool o3,.bool o4,.bool o5])∧Hid (∀ z,SS z→z.cell? ⟨w.heap.size+1,19,none⟩=some (.bool up))∧Hid (∀ z,SS z→z.cell? ⟨w.heap.size,19,none⟩=some (.bool e0.up)) ∧
        Hid (∀ z,SS z→z.cell? ⟨w.heap.size+1,31,none⟩=some (.slice x7 D.length y7))∧Hid (∀ z z',SS z→Below z.heap.size z z'→SS z')∧Hid (∀ z,SS z→Below w.heap.size w z):=by
       refine ⟨fun z=>DnI w C0 _ _ z,hq.draws 1,hide fun z hz=>range30 hz.a,hide fun z hz=>?_,hide fun z hz=>?_,hide fun z hz=>?_,hide fun z z' hz hb=>hz.step hb,hide fun z hz=>hz.l⟩
       ·rw [cr hz.a];rfl
       ·rw [cr hz.z];exact hzz.2
       ·rw [cr hz.a];rfl
      clear hq HQ HB c30 c31 c32 e31 hr HS HD HP C1 hzz hC0 l1 l2 l3 l4;generalize e0.up=u0 at *;refine wp_region_held_drew (S:=SS) (by kernel_rfl) hH (fun _=>?_)
-- region 15
      refine tk 0 (v:=?vc1) rfl ?hc1 ?_
      case hc1 =>
       intro z hz;clear hz;go_simp;try with_reducible rfl
      try simp only [Act.put,sA,sZ,sS,gA,gZ]
      refine wpAnyH_take (i:=1) rfl (by kernel_rfl) (by kernel_rfl) (by kernel_rfl) (fun _ _ _ h=>h) (yieldsIf_load_mid (by rfl) 29 (.tmp 83) rfl (w.heap.size+1) 0 rfl _ _ (uh G1) underlying29 rfl infoE) (by assumption) ?_;try simp only [Act.put,sA,sZ,sS,gA,gZ,gS]
      refine r1 2 rfl (fun K hK=>?_);go_simp;refine (uh CE1 _ (uh G6 _ hH)).mono ?_;rintro r y1 ⟨rfl,hb⟩;replace hH:=uh G5 _ _ hH hb;clear hb;go_wp2_with fail
      refine ro hK hH fun _=>?_
      clear hK K;refine tk 3 (v:=?vc2) rfl ?hc2 ?_
      case hc2 =>
       intro z hz;clear hz;go_simp;try with_reducible rfl
      try simp only [Act.put,sA,sZ,sS,gA,gZ,gS]
      refine tk 4 (v:=?vc3) rfl ?hc3 ?_
      case hc3 =>
       intro z hz;clear hz;go_simp;try with_reducible rfl
      try simp only [Act.put,sA,sZ,sS,gA,gZ,gS]
      refine wpAnyH_take (i:=5) rfl (by kernel_rfl) (by kernel_rfl) (by kernel_rfl) (fun _ _ _ h=>h) (yieldsIf_load_mid (by rfl) 29 (.tmp 87) rfl (w.heap.size+1) 0 rfl _ _ (uh G1) underlying29 rfl infoE) (by assumption) ?_;try simp only [Act.put,sA,sZ,sS,gA,gZ,gS]
      refine r1 6 rfl (fun K hK=>?_);go_simp;refine (uh CE2 _ (uh G6 _ hH)).mono ?_;rintro r y2 ⟨rfl,hb⟩;replace hH:=uh G5 _ _ hH hb;clear hb;go_wp2_with fail
      refine ro hK hH fun _=>?_
      clear hK K;refine tk 7 (v:=?vc4) rfl ?hc4 ?_
      case hc4 =>
       intro z hz;clear hz;go_simp;try with_reducible rfl
      try simp only [Act.put,sA,sZ,sS,gA,gZ,gS]
      refine tk 8 (v:=?vc5) rfl ?hc5 ?_
      case hc5 =>
       intro z hz;clear hz;go_simp;try with_reducible rfl
      try simp only [Act.put,sA,sZ,sS,gA,gZ,gS]
      refine tk 9 (v:=?vc6) rfl ?hc6 ?_
      case hc6 =>
       intro z hz;clear hz;go_simp;try with_reducible rfl
      try simp only [Act.put,sA,sZ,sS,gA,gZ,gS]
      refine tk 10 (v:=?vc7) rfl ?hc7 ?_
      case hc7 =>
       intro z hz;clear hz;go_simp;try with_reducible rfl
      try simp only [Act.put,sA,sZ,sS,gA,gZ,gS]
      refine tk 11 (v:=?vc8) rfl ?hc8 ?_
      case hc8 =>
       intro z hz;have hz2:=uh G2 _ hz;clear hz;go_simp;try with_reducible rfl
      try simp only [Act.put,sA,sZ,sS,gA,gZ,gS]
      refine tk 12 (v:=?vc9) rfl ?hc9 ?_
      case hc9 =>
       intro z hz;clear hz;go_simp;try with_reducible rfl
      try simp only [Act.put,sA,sZ,sS,gA,gZ,gS]
      cases up
      ·cases u0
       ·refine t5 13 ?_;refine t5 14 ?_;refine t5 15 ?_;refine tk 16 (v:=?vc10) rfl ?hc10 ?_
        case hc10 =>
         intro z hz;clear hz;go_simp;try with_reducible rfl
        try simp only [Act.put,sA,sZ,sS,gA,gZ,gS]
        refine tk 17 (v:=?vc11) rfl ?hc11 ?_
        case hc11 =>
         intro z hz;clear hz;go_simp;try with_reducible rfl
        try simp only [Act.put,sA,sZ,sS,gA,gZ,gS]
        refine tk 18 (v:=?vc12) rfl ?hc12 ?_
        case hc12 =>
         intro z hz;have hz2:=uh G4 _ hz;clear hz;go_simp;try with_reducible rfl
        try simp only [Act.put,sA,sZ,sS,gA,gZ,gS]
        refine r1 19 rfl (fun K hK=>?_);go_simp;refine (uh CT1 _ (uh G6 _ hH)).mono ?_;rintro r y3 ⟨rfl,hb⟩;replace hH:=uh G5 _ _ hH hb;clear hb;go_wp2_with fail
        refine ro hK hH fun _=>?_
        clear hK K;refine tk 20 (v:=?vc13) rfl ?hc13 ?_
        case hc13 =>
         intro z hz;clear hz;go_simp;try with_reducible rfl
        try simp only [Act.put,sA,sZ,sS,gA,gZ,gS]
        refine tk 21 (v:=?vc14) rfl ?hc14 ?_
        case hc14 =>
         intro z hz;clear hz;go_simp;try with_reducible rfl
        try simp only [Act.put,sA,sZ,sS,gA,gZ,gS]
        refine tk 22 (v:=?vc15) rfl ?hc15 ?_
        case hc15 =>
         intro z hz;clear hz;go_simp;try with_reducible rfl
        try simp only [Act.put,sA,sZ,sS,gA,gZ,gS]
        refine tk 23 (v:=?vc16) rfl ?hc16 ?_
        case hc16 =>
         intro z hz;clear hz;go_simp;try with_reducible rfl
        try simp only [Act.put,sA,sZ,sS,gA,gZ,gS]
        refine tk 24 (v:=?vc17) rfl ?hc17 ?_
        case hc17 =>
         intro z hz;have hz2:=uh G3 _ hz;clear hz;go_simp;try with_reducible rfl
        try simp only [Act.put,sA,sZ,sS,gA,gZ,gS]
        refine tk 25 (v:=?vc18) rfl ?hc18 ?_
        case hc18 =>
         intro z hz;clear hz;go_simp;try with_reducible rfl
        try simp only [Act.put,sA,sZ,sS,gA,gZ,gS]
        refine t5 26 ?_;refine t5 27 ?_;refine t5 28 ?_;refine t5 29 ?_;refine tk 30 (v:=?vc19) rfl ?hc19 ?_
        case hc19 =>
         intro z hz;clear hz;go_simp;try with_reducible rfl
        try simp only [Act.put,sA,sZ,sS,gA,gZ,gS]
        refine tk 31 (v:=?vc20) rfl ?hc20 ?_
        case hc20 =>
         intro z hz;clear hz;go_simp;try with_reducible rfl
        try simp only [Act.put,sA,sZ,sS,gA,gZ,gS]
        refine tk 32 (v:=?vc21) rfl ?hc21 ?_
        case hc21 =>
         intro z hz;have hz2:=uh G4 _ hz;clear hz;go_simp;try with_reducible rfl
        try simp only [Act.put,sA,sZ,sS,gA,gZ,gS]
        refine r1 33 rfl (fun K hK=>?_);go_simp;refine (uh CT2 _ (uh G6 _ hH)).mono ?_;rintro r y4 ⟨rfl,hb⟩;replace hH:=uh G5 _ _ hH hb;clear hb;go_wp2_with fail
        refine ro hK hH fun _=>?_
        clear hK K;refine tk 34 (v:=?vc22) rfl ?hc22 ?_
        case hc22 =>
         intro z hz;clear hz;go_simp;try with_reducible rfl
        try simp only [Act.put,sA,sZ,sS,gA,gZ,gS]
        refine tk 35 (v:=?vc23) rfl ?hc23 ?_
        case hc23 =>
         intro z hz;clear hz;go_simp;try with_reducible rfl
        try simp only [Act.put,sA,sZ,sS,gA,gZ,gS]
        refine tk 36 (v:=?vc24) rfl ?hc24 ?_
        case hc24 =>
         intro z hz;clear hz;go_simp;try with_reducible rfl
        try simp only [Act.put,sA,sZ,sS,gA,gZ,gS]
        refine dn ?_ _;go_wp2
        go_ret
        exact ⟨rfl,uh G6 _ hH⟩
       ·refine t5 13 ?_;refine t5 14 ?_;refine t5 15 ?_;refine tk 16 (v:=?vc25) rfl ?hc25 ?_
        case hc25 =>
         intro z hz;clear hz;go_simp;try with_reducible rfl
        try simp only [Act.put,sA,sZ,sS,gA,gZ,gS]
        refine tk 17 (v:=?vc26) rfl ?hc26 ?_
        case hc26 =>
         intro z hz;clear hz;go_simp;try with_reducible rfl
        try simp only [Act.put,sA,sZ,sS,gA,gZ,gS]
        refine tk 18 (v:=?vc27) rfl ?hc27 ?_
        case hc27 =>
         intro z hz;have hz2:=uh G4 _ hz;clear hz;go_simp;try with_reducible rfl
        try simp only [Act.put,sA,sZ,sS,gA,gZ,gS]
        refine r1 19 rfl (fun K hK=>?_);go_simp;refine (uh CT1 _ (uh G6 _ hH)).mono ?_;rintro r y5 ⟨rfl,hb⟩;replace hH:=uh G5 _ _ hH hb;clear hb;go_wp2_with fail
        refine ro hK hH fun _=>?_
        clear hK K;refine tk 20 (v:=?vc28) rfl ?hc28 ?_
        case hc28 =>
         intro z hz;clear hz;go_simp;try with_reducible rfl
        try simp only [Act.put,sA,sZ,sS,gA,gZ,gS]
        refine tk 21 (v:=?vc29) rfl ?hc29 ?_
        case hc29 =>
         intro z hz;clear hz;go_simp;try with_reducible rfl
        try simp only [Act.put,sA,sZ,sS,gA,gZ,gS]
        refine tk 22 (v:=?vc30) rfl ?hc30 ?_
        case hc30 =>
         intro z hz;clear hz;go_simp;try with_reducible rfl
        try simp only [Act.put,sA,sZ,sS,gA,gZ,gS]
        refine tk 23 (v:=?vc31) rfl ?hc31 ?_
        case hc31 =>
         intro z hz;clear hz;go_simp;try with_reducible rfl
        try simp only [Act.put,sA,sZ,sS,gA,gZ,gS]
        refine tk 24 (v:=?vc32) rfl ?hc32 ?_
        case hc32 =>
         intro z hz;have hz2:=uh G3 _ hz;clear hz;go_simp;try with_reducible rfl
        try simp only [Act.put,sA,sZ,sS,gA,gZ,gS]
        refine tk 25 (v:=?vc33) rfl ?hc33 ?_
        case hc33 =>
         intro z hz;clear hz;go_simp;try with_reducible rfl
        try simp only [Act.put,sA,sZ,sS,gA,gZ,gS]
        refine tk 26 (v:=?vc34) rfl ?hc34 ?_
        case hc34 =>
         intro z hz;clear hz;go_simp;try with_reducible rfl
        try simp only [Act.put,sA,sZ,sS,gA,gZ,gS]
        refine tk 27 (v:=?vc35) rfl ?hc35 ?_
        case hc35 =>
         intro z hz;clear hz;go_simp;try with_reducible rfl
        try simp only [Act.put,sA,sZ,sS,gA,gZ,gS]
        refine tk 28 (v:=?vc36) rfl ?hc36 ?_
        case hc36 =>
         intro z hz;have hz2:=uh G2 _ hz;clear hz;go_simp;try with_reducible rfl
        try simp only [Act.put,sA,sZ,sS,gA,gZ,gS]
        refine tk 29 (v:=?vc37) rfl ?hc37 ?_
        case hc37 =>
         intro z hz;clear hz;go_simp;try with_reducible rfl
        try simp only [Act.put,sA,sZ,sS,gA,gZ,gS]
        refine tk 30 (v:=?vc38) rfl ?hc38 ?_
        case hc38 =>
         intro z hz;clear hz;go_simp;try with_reducible rfl
        try simp only [Act.put,sA,sZ,sS,gA,gZ,gS]
        refine tk 31 (v:=?vc39) rfl ?hc39 ?_
        case hc39 =>
         intro z hz;clear hz;go_simp;try with_reducible rfl
        try simp only [Act.put,sA,sZ,sS,gA,gZ,gS]
        refine tk 32 (v:=?vc40) rfl ?hc40 ?_
        case hc40 =>
         intro z hz;have hz2:=uh G4 _ hz;clear hz;go_simp;try with_reducible rfl
        try simp only [Act.put,sA,sZ,sS,gA,gZ,gS]
        refine r1 33 rfl (fun K hK=>?_);go_simp;refine (uh CT2 _ (uh G6 _ hH)).mono ?_;rintro r y6 ⟨rfl,hb⟩;replace hH:=uh G5 _ _ hH hb;clear hb;go_wp2_with fail
        refine ro hK hH fun _=>?_
        clear hK K;refine tk 34 (v:=?vc41) rfl ?hc41 ?_
        case hc41 =>
         intro z hz;clear hz;go_simp;try with_reducible rfl
        try simp only [Act.put,sA,sZ,sS,gA,gZ,gS]
        refine tk 35 (v:=?vc42) rfl ?hc42 ?_
        case hc42 =>
         intro z hz;clear hz;go_simp;try with_reducible rfl
        try simp only [Act.put,sA,sZ,sS,gA,gZ,gS]
        refine tk 36 (v:=?vc43) rfl ?hc43 ?_
        case hc43 =>
         intro z hz;clear hz;go_simp;try with_reducible rfl
        try simp only [Act.put,sA,sZ,sS,gA,gZ,gS]
        refine dn ?_ _;go_wp2
        go_ret
        exact ⟨rfl,uh G6 _ hH⟩
      ·cases u0
       ·refine tk 13 (v:=?vc44) rfl ?hc44 ?_
        case hc44 =>
         intro z hz;clear hz;go_simp;try with_reducible rfl
        try simp only [Act.put,sA,sZ,sS,gA,gZ,gS]
        refine tk 14 (v:=?vc45) rfl ?hc45 ?_
        case hc45 =>
         intro z hz;have hz2:=uh G3 _ hz;clear hz;go_simp;try with_reducible rfl
        try simp only [Act.put,sA,sZ,sS,gA,gZ,gS]
        refine tk 15 (v:=?vc46) rfl ?hc46 ?_
        case hc46 =>
         intro z hz;clear hz;go_simp;try with_reducible rfl
        try simp only [Act.put,sA,sZ,sS,gA,gZ,gS]
        refine tk 16 (v:=?vc47) rfl ?hc47 ?_
        case hc47 =>
         intro z hz;clear hz;go_simp;try with_reducible rfl
        try simp only [Act.put,sA,sZ,sS,gA,gZ,gS]
        refine tk 17 (v:=?vc48) rfl ?hc48 ?_
        case hc48 =>
         intro z hz;clear hz;go_simp;try with_reducible rfl
        try simp only [Act.put,sA,sZ,sS,gA,gZ,gS]
        refine tk 18 (v:=?vc49) rfl ?hc49 ?_
        case hc49 =>
         intro z hz;have hz2:=uh G4 _ hz;clear hz;go_simp;try with_reducible rfl
        try simp only [Act.put,sA,sZ,sS,gA,gZ,gS]
        refine r1 19 rfl (fun K hK=>?_);go_simp;refine (uh CT1 _ (uh G6 _ hH)).mono ?_;rintro r y7 ⟨rfl,hb⟩;replace hH:=uh G5 _ _ hH hb;clear hb;go_wp2_with fail
        refine ro hK hH fun _=>?_
        clear hK K;refine tk 20 (v:=?vc50) rfl ?hc50 ?_
        case hc50 =>
         intro z hz;clear hz;go_simp;try with_reducible rfl
        try simp only [Act.put,sA,sZ,sS,gA,gZ,gS]
        refine tk 21 (v:=?vc51) rfl ?hc51 ?_
        case hc51 =>
         intro z hz;clear hz;go_simp;try with_reducible rfl
        try simp only [Act.put,sA,sZ,sS,gA,gZ,gS]
        refine tk 22 (v:=?vc52) rfl ?hc52 ?_
        case hc52 =>
         intro z hz;clear hz;go_simp;try with_reducible rfl
        try simp only [Act.put,sA,sZ,sS,gA,gZ,gS]
        refine tk 23 (v:=?vc53) rfl ?hc53 ?_
        case hc53 =>
         intro z hz;clear hz;go_simp;try with_reducible rfl
        try simp only [Act.put,sA,sZ,sS,gA,gZ,gS]
        refine tk 24 (v:=?vc54) rfl ?hc54 ?_
        case hc54 =>
         intro z hz;have hz2:=uh G3 _ hz;clear hz;go_simp;try with_reducible rfl
        try simp only [Act.put,sA,sZ,sS,gA,gZ,gS]
        refine tk 25 (v:=?vc55) rfl ?hc55 ?_
        case hc55 =>
         intro z hz;clear hz;go_simp;try with_reducible rfl
        try simp only [Act.put,sA,sZ,sS,gA,gZ,gS]
        refine t5 26 ?_;refine t5 27 ?_;refine t5 28 ?_;refine t5 29 ?_;refine tk 30 (v:=?vc56) rfl ?hc56 ?_
        case hc56 =>
         intro z hz;clear hz;go_simp;try with_reducible rfl
        try simp only [Act.put,sA,sZ,sS,gA,gZ,gS]
        refine tk 31 (v:=?vc57) rfl ?hc57 ?_
        case hc57 =>
         intro z hz;clear hz;go_simp;try with_reducible rfl
        try simp only [Act.put,sA,sZ,sS,gA,gZ,gS]
        refine tk 32 (v:=?vc58) rfl ?hc58 ?_
        case hc58 =>
         intro z hz;have hz2:=uh G4 _ hz;clear hz;go_simp;try with_reducible rfl
        try simp only [Act.put,sA,sZ,sS,gA,gZ,gS]
        refine r1 33 rfl (fun K hK=>?_);go_simp;refine (uh CT2 _ (uh G6 _ hH)).mono ?_;rintro r y8 ⟨rfl,hb⟩;replace hH:=uh G5 _ _ hH hb;clear hb;go_wp2_with fail
        refine ro hK hH fun _=>?_
        clear hK K;refine tk 34 (v:=?vc59) rfl ?hc59 ?_
        case hc59 =>
         intro z hz;clear hz;go_simp;try with_reducible rfl
        try simp only [Act.put,sA,sZ,sS,gA,gZ,gS]
        refine tk 35 (v:=?vc60) rfl ?hc60 ?_
        case hc60 =>
         intro z hz;clear hz;go_simp;try with_reducible rfl
        try simp only [Act.put,sA,sZ,sS,gA,gZ,gS]
        refine tk 36 (v:=?vc61) rfl ?hc61 ?_
        case hc61 =>
         intro z hz;clear hz;go_simp;try with_reducible rfl
        try simp only [Act.put,sA,sZ,sS,gA,gZ,gS]
        refine dn ?_ _;go_wp2
        go_ret
        exact ⟨rfl,uh G6 _ hH⟩
       ·refine tk 13 (v:=?vc62) rfl ?hc62 ?_
        case hc62 =>
         intro z hz;clear hz;go_simp;try with_reducible rfl
        try simp only [Act.put,sA,sZ,sS,gA,gZ,gS]
        refine tk 14 (v:=?vc63) rfl ?hc63 ?_
        case hc63 =>
         intro z hz;have hz2:=uh G3 _ hz;clear hz;go_simp;try with_reducible rfl
        try simp only [Act.put,sA,sZ,sS,gA,gZ,gS]
        refine tk 15 (v:=?vc64) rfl ?hc64 ?_
        case hc64 =>
         intro z hz;clear hz;go_simp;try with_reducible rfl
        try simp only [Act.put,sA,sZ,sS,gA,gZ,gS]
        refine tk 16 (v:=?vc65) rfl ?hc65 ?_
        case hc65 =>
         intro z hz;clear hz;go_simp;try with_reducible rfl
        try simp only [Act.put,sA,sZ,sS,gA,gZ,gS]
        refine tk 17 (v:=?vc66) rfl ?hc66 ?_
        case hc66 =>
         intro z hz;clear hz;go_simp;try with_reducible rfl
        try simp only [Act.put,sA,sZ,sS,gA,gZ,gS]
        refine tk 18 (v:=?vc67) rfl ?hc67 ?_
        case hc67 =>
         intro z hz;have hz2:=uh G4 _ hz;clear hz;go_simp;try with_reducible rfl
        try simp only [Act.put,sA,sZ,sS,gA,gZ,gS]
        refine r1 19 rfl (fun K hK=>?_);go_simp;refine (uh CT1 _ (uh G6 _ hH)).mono ?_;rintro r y9 ⟨rfl,hb⟩;replace hH:=uh G5 _ _ hH hb;clear hb;go_wp2_with fail
        refine ro hK hH fun _=>?_
        clear hK K;refine tk 20 (v:=?vc68) rfl ?hc68 ?_
        case hc68 =>
         intro z hz;clear hz;go_simp;try with_reducible rfl
        try simp only [Act.put,sA,sZ,sS,gA,gZ,gS]
        refine tk 21 (v:=?vc69) rfl ?hc69 ?_
        case hc69 =>
         intro z hz;clear hz;go_simp;try with_reducible rfl
        try simp only [Act.put,sA,sZ,sS,gA,gZ,gS]
        refine tk 22 (v:=?vc70) rfl ?hc70 ?_
        case hc70 =>
         intro z hz;clear hz;go_simp;try with_reducible rfl
        try simp only [Act.put,sA,sZ,sS,gA,gZ,gS]
        refine tk 23 (v:=?vc71) rfl ?hc71 ?_
        case hc71 =>
         intro z hz;clear hz;go_simp;try with_reducible rfl
        try simp only [Act.put,sA,sZ,sS,gA,gZ,gS]
        refine tk 24 (v:=?vc72) rfl ?hc72 ?_
        case hc72 =>
         intro z hz;have hz2:=uh G3 _ hz;clear hz;go_simp;try with_reducible rfl
        try simp only [Act.put,sA,sZ,sS,gA,gZ,gS]
        refine tk 25 (v:=?vc73) rfl ?hc73 ?_
        case hc73 =>
         intro z hz;clear hz;go_simp;try with_reducible rfl
        try simp only [Act.put,sA,sZ,sS,gA,gZ,gS]
        refine tk 26 (v:=?vc74) rfl ?hc74 ?_
        case hc74 =>
         intro z hz;clear hz;go_simp;try with_reducible rfl
        try simp only [Act.put,sA,sZ,sS,gA,gZ,gS]
        refine tk 27 (v:=?vc75) rfl ?hc75 ?_
        case hc75 =>
         intro z hz;clear hz;go_simp;try with_reducible rfl
        try simp only [Act.put,sA,sZ,sS,gA,gZ,gS]
        refine tk 28 (v:=?vc76) rfl ?hc76 ?_
        case hc76 =>
         intro z hz;have hz2:=uh G2 _ hz;clear hz;go_simp;try with_reducible rfl
        try simp only [Act.put,sA,sZ,sS,gA,gZ,gS]
        refine tk 29 (v:=?vc77) rfl ?hc77 ?_
        case hc77 =>
         intro z hz;clear hz;go_simp;try with_reducible rfl
        try simp only [Act.put,sA,sZ,sS,gA,gZ,gS]
        refine tk 30 (v:=?vc78) rfl ?hc78 ?_
        case hc78 =>
         intro z hz;clear hz;go_simp;try with_reducible rfl
        try simp only [Act.put,sA,sZ,sS,gA,gZ,gS]
        refine tk 31 (v:=?vc79) rfl ?hc79 ?_
        case hc79 =>
         intro z hz;clear hz;go_simp;try with_reducible rfl
        try simp only [Act.put,sA,sZ,sS,gA,gZ,gS]
        refine tk 32 (v:=?vc80) rfl ?hc80 ?_
        case hc80 =>
         intro z hz;have hz2:=uh G4 _ hz;clear hz;go_simp;try with_reducible rfl
        try simp only [Act.put,sA,sZ,sS,gA,gZ,gS]
        refine r1 33 rfl (fun K hK=>?_);go_simp;refine (uh CT2 _ (uh G6 _ hH)).mono ?_;rintro r y10 ⟨rfl,hb⟩;replace hH:=uh G5 _ _ hH hb;clear hb;go_wp2_with fail
        refine ro hK hH fun _=>?_
        clear hK K;refine tk 34 (v:=?vc81) rfl ?hc81 ?_
        case hc81 =>
         intro z hz;clear hz;go_simp;try with_reducible rfl
        try simp only [Act.put,sA,sZ,sS,gA,gZ,gS]
        refine tk 35 (v:=?vc82) rfl ?hc82 ?_
        case hc82 =>
         intro z hz;clear hz;go_simp;try with_reducible rfl
        try simp only [Act.put,sA,sZ,sS,gA,gZ,gS]
        refine tk 36 (v:=?vc83) rfl ?hc83 ?_
        case hc83 =>
         intro z hz;clear hz;go_simp;try with_reducible rfl
        try simp only [Act.put,sA,sZ,sS,gA,gZ,gS]
        refine dn ?_ _;go_wp2
        go_ret
        exact ⟨rfl,uh G6 _ hH⟩
-- region 15 ends
     ·have hS:S.length=0:=by
       have:=hr.no hcd
       have:=congrArg EO.sn this
       exact congrArg List.length this
      have hS2:((S.length:Nat):Int)=0:=by rw [hS];rfl
      have hS3:(((S.length:Nat):Int) == 0)=true:=by rw [hS2];rfl
      have hcd2:(cd != 0)=true:=by simp [bne,hcd]
      clear hq hr;go_wp2
      go_ret
      exact ⟨by first | rfl | simp [hS],(uh HQ).l⟩
end Go.Proofs.YtahpjlbaagkdoaaGreatDoor
