/- The bytes of a numbered frame: the program's walk and the model's; memory that was there stands. What is read of bytes as a numbered frame: the program's walk and the model's; memory that was there stands. Is a number a protocol: the program's and the model's walks; memory stands as it was. A number as a pair of bytes, the program's; a block of its own is made. A range over a function, walked: the loop's own records stand beside whatever the rounds and the iterator do to cells; no condition but those named. The program makes an iterator over a line; what lay in memory stands. Rows of numbers in memory: what they hold, and a number put behind one; no condition but those named. Numbers that were handed in: the law's own copies, counted; what lay in memory stands. The drawer's bytes: as many as are asked for are drawn into a text; only the drawer and new memory are turned. A drawn number at some limit; what lay in memory stands. A slice of bytes that was handed in, opened for the walks of the drawer; no condition. -/
import Derived.Test.YtkcghhkkepndnaaGreatDoorS05
import Derived.Test.YtkcghhkkepndnaaGreatDoorCln
import Derived.Test.YtkcghhkkepndnaaGreatDoorS00
import Derived.Test.YtkcghhkkepndnaaGreatDoorS06
import Derived.Test.YtkcghhkkepndnaaGreatDoorS01
import Derived.Deep.DeepCutAuto
import Derived.Test.YtkcghhkkepndnaaGreatDoorShW
import Derived.RangeFuncWrites
import Derived.RangeFuncCalls
import Derived.RangeFuncLeaves
import Derived.RangeFuncSeq
import Derived.OrdersIn
import Derived.TacticsIn
import Derived.OrdersHeld
import Derived.Deep.WholeRow
import Derived.Deep.RegionHeld
import Derived.Test.YtkcghhkkepndnaaGreatDoorS02
import Derived.Test.YtkcghhkkepndnaaGreatDoorS09
import Derived.Carry
import Derived.ChangeSlices
namespace Go.Proofs.YtkcghhkkepndnaaGreatDoor
open Go.RowKit
def nbLow (f:Nb):Nat:=if f.kind=2 then 1 else if f.kind=3 then 9 else 2*f.ns.toNat
def nbByte (f:Nb):UInt8:=UInt8.ofNat (32*f.nr.toNat+nbLow f)
def nbTold (f:Nb):ByteArray:=if nbOk f=true then txt (nbByte f :: f.text.data.toList) else ⟨#[]⟩
theorem nb_three {f:Nb} (h:nbOk f=true):∃ a:Nat,a≤7∧f.nr=(a:Int)∧((∃ b:Nat,b≤7∧f.kind=1∧f.ns=(b:Int)∧f.text.size≤200∧(nbByte f).toNat=32*a+2*b)∨(f.kind=2∧f.ns=0∧f.text=⟨#[]⟩∧(nbByte f).toNat=32*a+1)∨(f.kind=3∧f.ns=0∧f.text=⟨#[]⟩∧(nbByte f).toNat=32*a+9)):=by
  have h':=of_decide_eq_true h
  obtain ⟨kd,ns,nr,t⟩:=f
  dsimp only at h' ⊢
  refine ⟨nr.toNat,by omega,by omega,?_⟩
  rcases h'.2 with ⟨h1,h2,h3⟩ | ⟨h1,h2,h3⟩
  · refine Or.inl ⟨ns.toNat,by omega,h1,by omega,h3,?_⟩
    subst h1
    simp [nbByte,nbLow]
    omega
  · rcases h1 with h1 | h1
    · refine Or.inr (Or.inl ⟨h1,h2,empty_of h3,?_⟩)
      subst h1
      simp [nbByte,nbLow]
      omega
    · refine Or.inr (Or.inr ⟨h1,h2,empty_of h3,?_⟩)
      subst h1
      simp [nbByte,nbLow]
      omega
theorem row4n {w:World} {B:Nat} {x0 x1 x2 x3:Value} {T:TypeId} (h:w.heap[B]?=some (.cells #[x0,x1,x2,x3] T)) :
    w.cell? ⟨B,0,none⟩=some x0∧w.cell? ⟨B,1,none⟩=some x1∧w.cell? ⟨B,2,none⟩=some x2∧w.cell? ⟨B,3,none⟩=some x3 :=
  ⟨by rw [cell_of_row _ _ 0 _ _ (0,0) h];rfl,by rw [cell_of_row _ _ 1 _ _ (0,0) h];rfl,by rw [cell_of_row _ _ 2 _ _ (0,0) h];rfl,by rw [cell_of_row _ _ 3 _ _ (0,0) h];rfl⟩
theorem or32 (a b:Nat) (ha:a≤7) (hb:b<32):bits .or .i64 ((a:Int)*32) (b:Int)=((32*a+b:Nat):Int):=by
  have h1:a*32 ||| b=a*2 ^ 5+b:=by
    rw [Nat.mul_comm,show (32:Nat)=2 ^ 5 from rfl,← Nat.two_pow_add_eq_or_of_lt (by omega),Nat.mul_comm]
  show IntKind.i64.wrap ((BitVec.ofInt 64 ((a:Int)*32) ||| BitVec.ofInt 64 (b:Int)).toNat:Int)=_
  rw [show (a:Int)*32=((a*32:Nat):Int) by omega,BitVec.toNat_or,ofInt_u64 (a*32) (by omega),ofInt_u64 b (by omega),h1,IntKind.wrap_i64]
  omega
set_option maxHeartbeats 1000000 in
theorem iFirst (f:Nb) (h:nbOk f=true) (w:World):Calls Tryz.prog 110 #[nbV f] w fun e w'=>e=.returned (.int .u8 (nbByte f).toNat)∧Below w.heap.size w w':=by
  obtain ⟨a,ha,e1,hh⟩:=nb_three h
  generalize hB:(nbByte f).toNat=B at *
  clear hB h
  obtain ⟨kd,ns,nr,t⟩:=f
  dsimp only at *
  subst e1
  rcases hh with ⟨b,hb,rfl,rfl,_,rfl⟩ | ⟨rfl,rfl,rfl,rfl⟩ | ⟨rfl,rfl,rfl,rfl⟩
  · have ho:=or32 a (2*b) ha (by omega)
    rw [show ((2*b:Nat):Int)=(b:Int)*2 by omega] at ho
    go_enter Tryz.func110,Tryz.ntmps110
    go_wp2
    go_ret
    refine ⟨ret_int (by omega),(Below.refl _ _).alloc (Nat.le_refl _) _⟩
  · have ho:bits .or .i64 ((a:Int)*32) 1=((32*a+1:Nat):Int):=or32 a 1 ha (by omega)
    go_enter Tryz.func110,Tryz.ntmps110
    go_wp2
    go_ret
    refine ⟨ret_int (by omega),(Below.refl _ _).alloc (Nat.le_refl _) _⟩
  · have ho:bits .or .i64 ((a:Int)*32) 9=((32*a+9:Nat):Int):=or32 a 9 ha (by omega)
    go_enter Tryz.func110,Tryz.ntmps110
    go_wp2
    go_ret
    refine ⟨ret_int (by omega),(Below.refl _ _).alloc (Nat.le_refl _) _⟩
theorem told_no {f:Nb} (h:nbOk f=false):nbTold f=⟨#[]⟩:=by unfold nbTold;rw [if_neg (by rw [h];decide)]
theorem told_yes {f:Nb} (h:nbOk f=true):nbTold f=txt [nbByte f] ++ f.text:=by
  unfold nbTold
  rw [if_pos h]
  apply ByteArray.ext
  simp [txt]
theorem conv_one (c:UInt8) (w:World):(convert 22 9 (.slice (some ⟨w.heap.size,0,none⟩) 1 1)).run Tryz.prog (w.alloc (.cells #[.int .u8 c.toNat] 5))=.ok (.string (txt [c])) (w.alloc (.cells #[.int .u8 c.toNat] 5)):=by
  have h:(w.alloc (.cells #[.int .u8 c.toNat] 5)).ownsRow w.heap.size 5 1 (.slice (some ⟨w.heap.size,0,none⟩) 1 1) 1 (#[.int .u8 c.toNat]:Array Value).toList:=World.ownsRow_lit _ _ 1 (Nat.le_refl _) (by decide) rfl
  exact own_conv (l:=[c]) h
set_option maxHeartbeats 2000000 in
theorem iNbBytes (f:Nb) (w:World):Calls Tryz.prog 80 #[nbV f] w fun e w'=>e=.returned (.string (nbTold f))∧Below w.heap.size w w':=by
  have C:=hide fun v=>iNbRight f v
  cases hk:nbOk f
  · rw [told_no hk]
    rw [hk] at C
    obtain ⟨kd,ns,nr,t⟩:=f
    clear hk
    go_enter Tryz.func80,Tryz.ntmps80
    go_wp2_with fail
    refine (uh C _).mono ?_
    rintro e w2 ⟨rfl,hb2⟩
    go_wp2
    go_ret
    exact ⟨rfl,((Below.refl _ _).alloc (Nat.le_refl _) _).trans (hb2.mono (by simp))⟩
  · rw [told_yes hk]
    have C2:=hide fun v=>iFirst f hk v
    rw [hk] at C
    have hsz:f.text.size≤200:=by have:=of_decide_eq_true hk;omega
    clear hk
    generalize nbByte f=c at *
    obtain ⟨kd,ns,nr,t⟩:=f
    dsimp only at *
    go_enter Tryz.func80,Tryz.ntmps80
    go_wp2_with fail
    refine (uh C _).mono ?_
    rintro e w2 ⟨rfl,hb2⟩
    have hs0:(w.alloc (.cells #[.int .i64 kd,.int .i64 ns,.int .i64 nr,.string t] 96)).heap.size=w.heap.size+1:=by simp
    have hO2:w2.heap[w.heap.size]?=some (.cells #[.int .i64 kd,.int .i64 ns,.int .i64 nr,.string t] 96):=(hb2.block w.heap.size (by rw [hs0];omega)).trans (heap_alloc_new w _)
    have hB2:Below w.heap.size w w2:=((Below.refl _ _).alloc (Nat.le_refl _) _).trans (hb2.mono (by rw [hs0];omega))
    have hl2:w.heap.size<w2.heap.size:=(Array.getElem?_eq_some_iff.1 hO2).1
    obtain ⟨c0,c1,c2,c3⟩:=row4n hO2
    have HO2:=hide hO2
    clear hO2 hb2 C
    go_wp2_with fail
    go_region_held (fun q=>q.cell? ⟨w.heap.size,0,none⟩=some (.int .i64 kd)∧q.cell? ⟨w.heap.size,1,none⟩=some (.int .i64 ns)∧q.cell? ⟨w.heap.size,2,none⟩=some (.int .i64 nr)∧q.cell? ⟨w.heap.size,3,none⟩=some (.string t)) (go_keep) (first
      | (go_at_call 110;refine (uh C2 _).mono ?_;rintro e w3 ⟨rfl,hb3⟩
         have hs3:w2.heap.size≤w3.heap.size:=hb3.size
         have k0:=(hb3.cell (p:=⟨w.heap.size,0,none⟩) hl2).trans c0
         have k1:=(hb3.cell (p:=⟨w.heap.size,1,none⟩) hl2).trans c1
         have k2:=(hb3.cell (p:=⟨w.heap.size,2,none⟩) hl2).trans c2
         have k3:=(hb3.cell (p:=⟨w.heap.size,3,none⟩) hl2).trans c3
         have hB3:Below w.heap.size w w3:=hB2.trans ((show Below w2.heap.size w2 w3 from ⟨hb3.os,hb3.tape,hb3.output,hb3.size,hb3.block⟩).mono hB2.size)
         obtain ⟨Z,hZ,hcv,hcat⟩:∃ Z,Hid (Z=txt [c])∧(convert 22 9 (.slice (some ⟨w3.heap.size,0,none⟩) 1 1)).run Tryz.prog (w3.alloc (.cells #[.int .u8 c.toNat] 5))=.ok (.string Z) (w3.alloc (.cells #[.int .u8 c.toNat] 5))∧¬ (9223372036854775807<Z.size+t.size) :=
           ⟨_,hide rfl,conv_one c w3,by rw [txt_size];simp;omega⟩
         clear hb3))
    all_goals
      go_wp2
      go_ret
      refine ⟨by rw [uh hZ];rfl,hB3.alloc hB3.size _⟩
set_option maxHeartbeats 2000000 in
theorem sNbBytes (f:Nb) (w:World):Calls Tryz.prog 73 #[nbV f] w fun e w'=>e=.returned (.string (nbTold f))∧Below w.heap.size w w':=by
  have C:=hide fun v=>sNbRight f v
  cases hk:nbOk f
  · rw [told_no hk]
    rw [hk] at C
    obtain ⟨kd,ns,nr,t⟩:=f
    clear hk
    go_enter Tryz.func73,Tryz.ntmps73
    go_wp2_with fail
    refine (uh C _).mono ?_
    rintro e w2 ⟨rfl,hb2⟩
    go_wp2
    go_ret
    exact ⟨rfl,((Below.refl _ _).alloc (Nat.le_refl _) _).trans (hb2.mono (by simp))⟩
  · rw [told_yes hk]
    rw [hk] at C
    obtain ⟨a,ha,e1,hh⟩:=nb_three hk
    have hsz:f.text.size≤200:=by have:=of_decide_eq_true hk;omega
    clear hk
    generalize hc:nbByte f=c at *
    clear hc
    obtain ⟨kd,ns,nr,t⟩:=f
    dsimp only at *
    subst e1
    go_enter Tryz.func73,Tryz.ntmps73
    go_wp2_with fail
    refine (uh C _).mono ?_
    rintro e w2 ⟨rfl,hb2⟩
    have hs0:(w.alloc (.cells #[.int .i64 kd,.int .i64 ns,.int .i64 a,.string t] 96)).heap.size=w.heap.size+1:=by simp
    have hO2:w2.heap[w.heap.size]?=some (.cells #[.int .i64 kd,.int .i64 ns,.int .i64 a,.string t] 96):=(hb2.block w.heap.size (by rw [hs0];omega)).trans (heap_alloc_new w _)
    have hB2:Below w.heap.size w w2:=((Below.refl _ _).alloc (Nat.le_refl _) _).trans (hb2.mono (by rw [hs0];omega))
    have hl2:w.heap.size<w2.heap.size:=(Array.getElem?_eq_some_iff.1 hO2).1
    have hl2':¬ (w.heap.size=w2.heap.size):=by omega
    obtain ⟨c0,c1,c2,c3⟩:=row4n hO2
    clear hO2 hb2 C
    obtain ⟨Z,hZ,hcv,hcat⟩:∃ Z,Hid (Z=txt [c])∧(convert 22 9 (.slice (some ⟨w2.heap.size,0,none⟩) 1 1)).run Tryz.prog (w2.alloc (.cells #[.int .u8 c.toNat] 5))=.ok (.string Z) (w2.alloc (.cells #[.int .u8 c.toNat] 5))∧¬ (9223372036854775807<Z.size+t.size) :=
      ⟨_,hide rfl,conv_one c w2,by rw [txt_size];simp;omega⟩
    rcases hh with ⟨b,hb,rfl,rfl,_,hcc⟩ | ⟨rfl,rfl,rfl,hcc⟩ | ⟨rfl,rfl,rfl,hcc⟩
    · rw [hcc,show ((32*a+2*b:Nat):Int)=32*(a:Int)+2*(b:Int) by omega] at hcv
      go_wp2
      go_ret
      refine ⟨by rw [uh hZ];rfl,hB2.alloc hB2.size _⟩
    · rw [hcc,show ((32*a+1:Nat):Int)=32*(a:Int)+1 by omega] at hcv
      go_wp2
      go_ret
      refine ⟨by rw [uh hZ];rfl,hB2.alloc hB2.size _⟩
    · rw [hcc,show ((32*a+9:Nat):Int)=32*(a:Int)+9 by omega] at hcv
      go_wp2
      go_ret
      refine ⟨by rw [uh hZ];rfl,hB2.alloc hB2.size _⟩
set_option maxHeartbeats 400000 in
theorem cloneStr (t:ByteArray) (w:World) (ht:t.size≤281474976710656):Calls Tryz.prog 60 #[.string t] w fun e w'=>e=.returned (.string t)∧Below w.heap.size w w':=by
 have C:=hide (Any.stringslite_Clone Tryz.laysCln t w ht)
 go_enter Tryz.func60,Tryz.ntmps60
 go_wp2_with fail
 refine (uh C).mono ?_
 rintro e w1 ⟨rfl,hb⟩
 go_wp2
 go_ret
 exact ⟨rfl,hb⟩
def nbZero:Nb:=⟨0,0,0,⟨#[]⟩⟩
def nbSay (c:UInt8) (t:ByteArray):Nb:=if c.toNat % 32=1 then ⟨2,0,(c.toNat / 32:Nat),t⟩ else if c.toNat % 32=9 then ⟨3,0,(c.toNat / 32:Nat),t⟩ else if c.toNat % 2=0 then ⟨1,(c.toNat % 32 / 2:Nat),(c.toNat / 32:Nat),t⟩ else ⟨0,0,0,t⟩
def nbFst (c:UInt8) (t:ByteArray):Nb:=if c.toNat % 32=1 then ⟨2,0,(c.toNat / 32:Nat),t⟩ else if c.toNat % 32=9 then ⟨3,0,(c.toNat / 32:Nat),t⟩ else ⟨1,(c.toNat / 2 % 8:Nat),(c.toNat / 32:Nat),t⟩
def nbRead (t:ByteArray):Nb:=match t.data.toList with
 | []=>nbZero
 | c :: l=>if nbOk (nbSay c (txt l))=true then nbSay c (txt l) else nbZero
theorem say_told (c:UInt8) (l:List UInt8):(nbTold (nbFst c (txt l))=txt (c :: l))↔nbOk (nbSay c (txt l))=true:=by
 have hc:=c.toNat_lt
 by_cases h1:c.toNat % 32=1
 ·have e1:nbFst c (txt l)=nbSay c (txt l):=by unfold nbFst nbSay;rw [if_pos h1,if_pos h1]
  rw [e1]
  cases hk:nbOk (nbSay c (txt l))
  ·rw [told_no hk]
   simp [txt]
  ·rw [told_yes hk]
   have e2:nbSay c (txt l)=⟨2,0,(c.toNat / 32:Nat),txt l⟩:=by unfold nbSay;rw [if_pos h1]
   rw [e2]
   have e3:nbByte ⟨2,0,(c.toNat / 32:Nat),txt l⟩=c:=by
    apply UInt8.toNat_inj.1
    simp [nbByte,nbLow]
    omega
   rw [e3]
   simp [txt]
   apply ByteArray.ext
   simp
 by_cases h9:c.toNat % 32=9
 ·have e1:nbFst c (txt l)=nbSay c (txt l):=by unfold nbFst nbSay;rw [if_neg h1,if_neg h1,if_pos h9,if_pos h9]
  rw [e1]
  cases hk:nbOk (nbSay c (txt l))
  ·rw [told_no hk]
   simp [txt]
  ·rw [told_yes hk]
   have e2:nbSay c (txt l)=⟨3,0,(c.toNat / 32:Nat),txt l⟩:=by unfold nbSay;rw [if_neg h1,if_pos h9]
   rw [e2]
   have e3:nbByte ⟨3,0,(c.toNat / 32:Nat),txt l⟩=c:=by
    apply UInt8.toNat_inj.1
    simp [nbByte,nbLow]
    omega
   rw [e3]
   simp [txt]
   apply ByteArray.ext
   simp
 have e1:nbFst c (txt l)=⟨1,(c.toNat / 2 % 8:Nat),(c.toNat / 32:Nat),txt l⟩:=by unfold nbFst;rw [if_neg h1,if_neg h9]
 have hB:(nbByte (nbFst c (txt l))).toNat=32*(c.toNat / 32)+2*(c.toNat / 2 % 8):=by
  rw [e1]
  simp [nbByte,nbLow]
  omega
 by_cases h2:c.toNat % 2=0∧c.toNat % 32<16
 ·have e2:nbSay c (txt l)=nbFst c (txt l):=by
   rw [e1]
   unfold nbSay
   rw [if_neg h1,if_neg h9,if_pos h2.1,show c.toNat % 32 / 2=c.toNat / 2 % 8 by omega]
  rw [e2]
  cases hk:nbOk (nbFst c (txt l))
  ·rw [told_no hk]
   simp [txt]
  ·rw [told_yes hk]
   have e3:nbByte (nbFst c (txt l))=c:=by
    apply UInt8.toNat_inj.1
    rw [hB]
    omega
   rw [e3,e1]
   simp [txt]
   apply ByteArray.ext
   simp
 ·have e2:nbOk (nbSay c (txt l))=false:=by
   unfold nbSay
   rw [if_neg h1,if_neg h9]
   by_cases h3:c.toNat % 2=0
   ·rw [if_pos h3]
    exact decide_eq_false (by dsimp only;omega)
   ·rw [if_neg h3]
    exact decide_eq_false (by dsimp only;omega)
  rw [e2]
  refine ⟨fun h=>?_,fun h=>by cases h⟩
  exfalso
  cases hk:nbOk (nbFst c (txt l))
  ·rw [told_no hk] at h
   simp [txt] at h
  ·rw [told_yes hk] at h
   have h4:nbByte (nbFst c (txt l))=c:=by
    have h4:=congrArg (fun t:ByteArray=>t.data.toList.head?) h
    simpa [txt] using h4
   rw [h4] at hB
   omega
set_option maxHeartbeats 1000000 in
theorem iSay (c:UInt8) (w:World):Calls Tryz.prog 125 #[.int .u8 c.toNat] w fun e w'=>e=.returned (nbV (nbSay c ⟨#[]⟩))∧Below w.heap.size w w':=by
 have hc:=c.toNat_lt
 have ho:bits .and .i64 (c.toNat:Int) 31=((c.toNat % 32:Nat):Int):=by
  rw [show (31:Int)=((31:Nat):Int) from rfl,i64_and_nat _ _ (by omega) (by omega)]
  rw [show (31:Nat)=2 ^ 5 - 1 from rfl,Nat.and_two_pow_sub_one_eq_mod]
 have ho2:bits .and .i64 ((c.toNat % 32:Nat):Int) 1=((c.toNat % 2:Nat):Int):=by
  rw [show (1:Int)=((1:Nat):Int) from rfl,i64_and_nat _ _ (by omega) (by omega)]
  rw [show (1:Nat)=2 ^ 1 - 1 from rfl,Nat.and_two_pow_sub_one_eq_mod]
  congr 1
  omega
 unfold nbSay
 generalize c.toNat=n at *
 by_cases h1:n % 32=1
 ·rw [if_pos h1]
  go_enter Tryz.func125,Tryz.ntmps125
  go_wp2
  refine bodyPost_ret (v:=.agg #[.int .i64 2,.int .i64 0,.int .i64 ((n:Int) / 32),.string ⟨#[]⟩]) (by simp [results,Tryz.results125,go_sem]) rfl ⟨by simp,?_⟩
  exact (Below.refl _ _).alloc (Nat.le_refl _) _
 by_cases h9:n % 32=9
 ·rw [if_neg h1,if_pos h9]
  go_enter Tryz.func125,Tryz.ntmps125
  go_wp2
  refine bodyPost_ret (v:=.agg #[.int .i64 3,.int .i64 0,.int .i64 ((n:Int) / 32),.string ⟨#[]⟩]) (by simp [results,Tryz.results125,go_sem]) rfl ⟨by simp,?_⟩
  exact (Below.refl _ _).alloc (Nat.le_refl _) _
 have f1:(((n % 32:Nat):Int) == 1)=false:=beq_eq_false_iff_ne.2 (by omega)
 have f9:(((n % 32:Nat):Int) == 9)=false:=beq_eq_false_iff_ne.2 (by omega)
 rw [if_neg h1,if_neg h9]
 by_cases h2:n % 2=0
 ·rw [if_pos h2]
  have f2:(((n % 2:Nat):Int) == 0)=true:=beq_iff_eq.2 (by omega)
  have HB:Hid ((n % 32 / 2:Nat)=(n:Int) % 32 / 2):=hide (by omega)
  generalize hm:n % 32=m at *
  go_enter Tryz.func125,Tryz.ntmps125
  go_wp2
  refine bodyPost_ret (v:=.agg #[.int .i64 1,.int .i64 ((m:Int) / 2),.int .i64 ((n:Int) / 32),.string ⟨#[]⟩]) (by simp [results,Tryz.results125,go_sem]) rfl ⟨by simp,?_⟩
  exact (Below.refl _ _).alloc (Nat.le_refl _) _
 ·rw [if_neg h2]
  have f2:(((n % 2:Nat):Int) == 0)=false:=beq_eq_false_iff_ne.2 (by omega)
  generalize hm:n % 32=m at *
  go_enter Tryz.func125,Tryz.ntmps125
  go_wp2
  refine bodyPost_ret (v:=.agg #[.int .i64 0,.int .i64 0,.int .i64 0,.string ⟨#[]⟩]) (by simp [results,Tryz.results125,go_sem]) rfl ⟨by simp,?_⟩
  exact (Below.refl _ _).alloc (Nat.le_refl _) _
theorem and1 (k:Nat) (h:k<4294967296):bits .and .i64 (k:Int) 1=((k % 2:Nat):Int):=by
 have h':=i64_and_nat k 1 h (by decide)
 rw [nat_mask1] at h'
 exact h'
theorem proto_ways (x:Int) (P:Prop) (h1:x<0→Pp.ok x=false→P) (h2:0≤x→65535<x→Pp.ok x=false→P)
  (h3:∀ k:Nat,x=k→k<65536→k % 2=0→Pp.ok x=false→P) (h4:∀ k:Nat,x=k→k<65536→k % 2=1→k / 256 % 2=1→Pp.ok x=false→P)
  (h5:∀ k:Nat,x=k→k<65536→k % 2=1→k / 256 % 2=0→Pp.ok x=true→P):P:=by
 by_cases a:0≤x
 ·by_cases b:x≤65535
  ·obtain ⟨k,rfl⟩:∃ k:Nat,x=k:=⟨x.toNat,by omega⟩
   by_cases c:k % 2=1
   ·by_cases d:k / 256 % 2=0
    ·exact h5 k rfl (by omega) c d (decide_eq_true (by omega))
    ·exact h4 k rfl (by omega) c (by omega) (decide_eq_false (by omega))
   ·exact h3 k rfl (by omega) (by omega) (decide_eq_false (by omega))
  ·exact h2 a (by omega) (decide_eq_false (by omega))
 ·exact h1 (by omega) (decide_eq_false (by omega))
set_option maxHeartbeats 400000 in
theorem specIs (x:Int) (w:World):Calls Tryz.prog 29 #[.int .i64 x,.int .i64 0,.int .i64 65535] w fun e w'=>e=.returned (.bool (decide (0≤x) && decide (x≤65535)))∧w'=w:=by
 by_cases h1:0≤x
 ·have d1:decide ((0:Int)≤x)=true:=decide_eq_true h1
  rw [d1,Bool.true_and]
  go_enter Tryz.func29,Tryz.ntmps29
  go_wp2
  go_ret
  exact ⟨rfl,rfl⟩
 ·have d1:decide ((0:Int)≤x)=false:=decide_eq_false h1
  rw [d1,Bool.false_and]
  go_enter Tryz.func29,Tryz.ntmps29
  go_wp2
  go_ret
  exact ⟨rfl,rfl⟩
set_option maxHeartbeats 400000 in
theorem implProto (x:Int) (w:World):Calls Tryz.prog 106 #[.int .i64 x] w fun e w'=>e=.returned (.bool (Pp.ok x))∧w'=w:=by
 refine proto_ways x _ (fun a r=>?_) (fun a b r=>?_) (fun k e a b r=>?_) (fun k e a b c r=>?_) (fun k e a b c r=>?_)
 all_goals rw [r];clear r
 ·have d1:decide ((0:Int)≤x)=false:=decide_eq_false (by omega)
  go_enter Tryz.func106,Tryz.ntmps106
  go_wp2
  go_ret
  exact ⟨rfl,rfl⟩
 ·have d1:decide ((0:Int)≤x)=true:=decide_eq_true a
  have d2:decide (x≤65535)=false:=decide_eq_false (by omega)
  go_enter Tryz.func106,Tryz.ntmps106
  go_wp2
  go_ret
  exact ⟨rfl,rfl⟩
 all_goals
  subst e
  have d1:decide ((0:Int)≤(k:Int))=true:=decide_eq_true (by omega)
  have d2:decide ((k:Int)≤65535)=true:=decide_eq_true (by omega)
  have e1:=and1 k (by omega)
  rw [b] at e1
 ·go_enter Tryz.func106,Tryz.ntmps106
  go_wp2
  go_ret
  exact ⟨rfl,rfl⟩
 all_goals
  have e2:=and1 (k / 256) (by omega)
  rw [c] at e2
  go_enter Tryz.func106,Tryz.ntmps106
  go_wp2
  go_ret
  refine ⟨ret_bool ?_,rfl⟩
  rw [show ((k:Int) / 256)=((k / 256:Nat):Int) by omega,e2]
  rfl
set_option maxHeartbeats 400000 in
theorem specProto (x:Int) (w:World):Calls Tryz.prog 105 #[.int .i64 x] w fun e w'=>e=.returned (.bool (Pp.ok x))∧w'=w:=by
 have c1:=specIs x w
 refine proto_ways x _ (fun a r=>?_) (fun a b r=>?_) (fun k e a b r=>?_) (fun k e a b c r=>?_) (fun k e a b c r=>?_)
 all_goals rw [r];clear r
 ·rw [show (decide ((0:Int)≤x) && decide (x≤65535))=false by simp;omega] at c1
  go_enter Tryz.func105,Tryz.ntmps105
  go_wp2_with (first
   | (go_at_call 29;refine c1.mono ?_;rintro e w1 ⟨rfl,rfl⟩))
  go_ret
  exact ⟨rfl,rfl⟩
 ·rw [show (decide ((0:Int)≤x) && decide (x≤65535))=false by simp;omega] at c1
  go_enter Tryz.func105,Tryz.ntmps105
  go_wp2_with (first
   | (go_at_call 29;refine c1.mono ?_;rintro e w1 ⟨rfl,rfl⟩))
  go_ret
  exact ⟨rfl,rfl⟩
 all_goals
  subst e
  rw [show (decide ((0:Int)≤(k:Int)) && decide ((k:Int)≤65535))=true by simp;omega] at c1
  have e1:(k:Int) % 2=((k % 2:Nat):Int):=by omega
  rw [b] at e1
  go_enter Tryz.func105,Tryz.ntmps105
  go_wp2_with (first
   | (go_at_call 29;refine c1.mono ?_;rintro e w1 ⟨rfl,rfl⟩))
  go_ret
  refine ⟨ret_bool ?_,rfl⟩
  first
   | rfl
   | (rw [show (k:Int) / 256 % 2=((k / 256 % 2:Nat):Int) by omega,c];rfl)
theorem hi_byte {k:Nat} (hk:k<65536):(k:Int) / 256=((UInt8.ofNat (k / 256)).toNat:Int):=by
 have:(UInt8.ofNat (k / 256)).toNat=k / 256:=by simp;omega
 omega
theorem lo_byte (k:Nat):(k:Int) % 256=((UInt8.ofNat k).toNat:Int):=by
 have:(UInt8.ofNat k).toNat=k % 256:=by simp
 omega
set_option maxHeartbeats 400000 in
theorem pairOf (k:Nat) (hk:k<65536) (w:World) :
  Calls Tryz.prog 108 #[.int .i64 k] w fun e w'=>e=.returned (.agg #[.int .u8 (UInt8.ofNat (k / 256)).toNat,  .int .u8 (UInt8.ofNat k).toNat])∧w'=w.alloc (.cells #[.int .u8 (UInt8.ofNat (k / 256)).toNat,.int .u8 (UInt8.ofNat k).toNat] 143):=by
 rw [← hi_byte hk,← lo_byte k]
 go_enter Tryz.func108,Tryz.ntmps108
 go_wp2
 refine bodyPost_ret (v:=.agg #[.int .u8 ((k:Int) / 256),.int .u8 ((k:Int) % 256)]) (by simp [results,Tryz.results108,go_sem]) rfl ⟨rfl,rfl⟩
def recOf (fn:FuncId) (tmps:Array Value) (ps:Array Tmp) (assign body:Code) (D:Nat) (st:LoopState):Loop:={ state:=st,pending:=none,fn:=fn,tmps:=tmps,params:=ps,assign:=assign,body:=body,defers:=D }
structure RecAt (l:Nat) (r:LoopState→Loop) (D:Nat) (st:LoopState) (W:World):Prop where
 lp:W.heap[l]?=some (.loop (r st))
 df:W.heap[D]?=some (.deferred (some []))
theorem RecAt.keep {l D B:Nat} {r:LoopState→Loop} {st:LoopState} {W W':World} (h:RecAt l r D st W) (k:KeepsFrom B W W') (h1:B≤l) (h2:B≤D):RecAt l r D st W' :=
 ⟨k.same _ _ h1 h.lp rfl,k.same _ _ h2 h.df rfl⟩
theorem RecAt.ne {l D:Nat} {r:LoopState→Loop} {st:LoopState} {W:World} (h:RecAt l r D st W):D≠l:=fun e=>by
 have:=h.lp
 rw [← e,h.df] at this
 cases this
theorem RecAt.put {l D:Nat} {r:LoopState→Loop} {st:LoopState} {W:World} (h:RecAt l r D st W) (st':LoopState):RecAt l r D st' (W.putObj l (.loop (r st'))) :=
 ⟨World.putObj_heap_same (Array.getElem?_eq_some_iff.1 h.lp).1,(World.putObj_heap_other h.ne).trans h.df⟩
theorem yield_of {P:Program} {m l D B:Nat} {fn:FuncId} {tmps:Array Value} {ps:Array Tmp} {assign body:Code} {W:World} {x:Value}
  (hr:RecAt l (recOf fn tmps ps assign body D) D .ready W) (hps:ps.size=1) (hl:B≤l) (hD:B≤D) {J:World→Prop}
  (hJ:∀ V r o,V.heap[l]?=some (.loop r)→J V→J (V.putObj l (.loop o)))
  (h:assign.wpIn (Fence.wide.inRound l) m P (Exit.then (fun a1 W1=>KeepsFrom B W W1∧∀ W2,W2=W1.putObj l (.loop (recOf fn tmps ps assign body D .busy))→RecAt l (recOf fn tmps ps assign body D) D .busy W2 →
   body.wpIn (Fence.wide.inRound l) m P (fun e _ W'=>e=.normal∧KeepsFrom B W2 W'∧J W') a1 W2) (fun _ _ _=>False))
   { tmps:=(ps.zip #[x]).foldl (fun t (p,v)=>t.setIfInBounds p v) tmps,defers:=[] } W) :
  YieldAt Fence.wide m P l #[x] W fun e W'=>e=.returned (.bool true)∧J W'∧RecAt l (recOf fn tmps ps assign body D) D .ready W':=by
 refine ⟨fn,_,assign,body,run_yield (P:=P) (args:=#[x]) hr.lp (by rw [show (recOf fn tmps ps assign body D .ready).params=ps from rfl,hps];rfl),roundIn_of_wpIn trivial (wpIn_mono h ?_)⟩
 rintro e a1 W1 he
 cases e with
 | normal =>
  obtain ⟨hk,hb⟩:=he
  have r1:=hr.keep hk hl hD
  refine ⟨_,run_beginRound r1.lp rfl,wpIn_mono (hb _ rfl (r1.put .busy)) ?_⟩
  rintro e a2 W3 ⟨rfl,k3,j3⟩
  have r3:=(r1.put .busy).keep k3 hl hD
  exact ⟨_,_,run_endRound none r3.lp,rfl,hJ _ _ _ r3.lp j3,r3.put .ready⟩
 | _=>exact he.elim
theorem wp_range {P:Program} {n:Nat} {g:Operand} {ps:Array Tmp} {assign body:Code} {Q:Exit→Act→World→Prop} {a:Act} {w:World} {gf:Nat} {lb:Array Value}
  (hg:a.eval g=.func (.func gf) #[] lb) (eg:∀ args w,(callFunc gf args).run P w=.ok (.enter gf args) w) {J:World→Prop}
  (hJ:∀ V l r o,w.heap.size≤l→V.heap[l]?=some (.loop r)→J V→J (V.putObj l (.loop o)))
  (hi:∀ fn l D W1 R,R=recOf fn a.tmps ps assign body D→w.heap.size≤l→w.heap.size≤D→Below w.heap.size w W1→W1.heap.size=w.heap.size+2→RecAt l R D .ready W1 →
   CallsIn Fence.wide (n - 1) P gf (#[.func (.yield l) #[] #[]] ++ lb) W1 fun e W'=>(∃ v,e=.returned v)∧J W'∧RecAt l R D .ready W')
  (hd:∀ D W,w.heap.size≤D→J W→W.heap[D]?=some (.deferred (some []))→Q .normal { a with defers:={ target:=.collected D,args:=#[] } :: a.defers } W) :
  (Code.rangeFunc g ps assign body).wpIn Fence.wide n P Q a w:=by
 refine wpIn_rangeFunc ?_
 intro fn _
 have hen:=run_enterLoop_outer (P:=P) (w:=w) fn a.tmps ps assign body
 obtain ⟨W1,hW1⟩:∃ W1,(w.alloc (.deferred (some []))).alloc (.loop (recOf fn a.tmps ps assign body w.heap.size .ready))=W1:=⟨_,rfl⟩
 have hR:RecAt (w.heap.size+1) (recOf fn a.tmps ps assign body w.heap.size) w.heap.size .ready W1:=by
  rw [← hW1]
  refine ⟨?_,(Below.heap_alloc _ _ _ (by simp)).trans (World.alloc_heap_new w _)⟩
  have:=World.alloc_heap_new (w.alloc (.deferred (some []))) (.loop (recOf fn a.tmps ps assign body w.heap.size .ready))
  rwa [World.size_alloc] at this
 have hb:Below w.heap.size w W1:=by rw [← hW1];exact ((Below.refl _ w).alloc (Nat.le_refl _) _).alloc (by simp) _
 have hz:W1.heap.size=w.heap.size+2:=by rw [← hW1];simp
 have hc:=hi fn (w.heap.size+1) w.heap.size W1 _ rfl (Nat.le_succ _) (Nat.le_refl _) hb hz hR
 rw [show Fence.wide.round=none from rfl]
 clear hi hb hz hR
 refine ⟨w.heap.size+1,[{ target:=.collected w.heap.size,args:=#[] }],W1,{ target:=.fn (.func gf) lb,args:=#[.func (.yield (w.heap.size+1)) #[] #[]] },W1,gf,#[.func (.yield (w.heap.size+1)) #[] #[]] ++ lb,W1,?_,?_,fun _ _=>trivial,?_,fun h=>(by cases h),?_⟩
 ·rw [← hW1];exact hen
 ·simp only [resolve,hg]
  simp [go_sem]
 ·simp [invoke,go_sem,eg]
 ·refine hc.mono ?_
  rintro e W2 ⟨⟨v,rfl⟩,hj,r2⟩
  exact ⟨none,_,run_endLoop r2.lp (by show LoopState.ready≠.busy;simp),hd _ _ (Nat.le_refl _) (hJ _ _ _ _ (Nat.le_succ _) r2.lp hj) ((World.putObj_heap_other r2.ne).trans r2.df)⟩
def AnI (B k cnt:Nat) (W:World) (e:Ending) (W':World):Prop:=∃ C1 C2,e=.returned (.func (.func 89) #[] #[.pointer (some ⟨C1,0,none⟩),.pointer (some ⟨C2,0,none⟩)])∧W'.heap[C1]?=some (.cells #[.int .i64 (cnt:Int)] 3)∧W'.heap[C2]?=some (.cells #[.pointer (some ⟨B,k,none⟩)] 108)∧Below W.heap.size W W'∧W.heap.size≤C1∧W.heap.size≤C2
set_option maxHeartbeats 1000000 in
theorem iCome (B k cnt:Nat) (W:World):Calls Tryz.prog 63 #[.pointer (some ⟨B,k,none⟩),.int .i64 (cnt:Int)] W fun e W'=>AnI B k cnt W e W':=by
 have h1:=heap_alloc_new W (.cells #[.pointer (some ⟨B,k,none⟩)] 108)
 have h2:=heap_alloc_new (W.alloc (.cells #[.pointer (some ⟨B,k,none⟩)] 108)) (.cells #[.int .i64 (cnt:Int)] 3)
 have hb1:Below W.heap.size W (W.alloc (.cells #[.pointer (some ⟨B,k,none⟩)] 108)):=(Below.refl _ _).alloc (Nat.le_refl _) _
 have hb2:Below W.heap.size W ((W.alloc (.cells #[.pointer (some ⟨B,k,none⟩)] 108)).alloc (.cells #[.int .i64 (cnt:Int)] 3)):=hb1.alloc (by simp) _
 rw [World.size_alloc] at h2
 have H:=hide (And.intro ((Below.heap_alloc _ (.cells #[.int .i64 (cnt:Int)] 3) _ (by simp)).trans h1) (And.intro h2 hb2))
 clear h1 h2 hb1 hb2
 go_enter Tryz.func63,Tryz.ntmps63
 go_wp2
 go_ret
 exact ⟨_,_,rfl,(uh H).2.1,(uh H).1,(uh H).2.2,Nat.le_succ _,Nat.le_refl _⟩
set_option maxHeartbeats 1000000 in
theorem iComeAll {B k:Nat} {ad:Option Addr} {q cp:Nat} {W:World} (hc:W.cell? ⟨B,k,none⟩=some (.slice ad q cp)):Calls Tryz.prog 48 #[.pointer (some ⟨B,k,none⟩)] W fun e W'=>AnI B k q W e W':=by
 have C:=hide (iCome B k q W)
 go_enter Tryz.func48,Tryz.ntmps48
 go_wp2_with fail
 refine (uh C).mono ?_
 rintro e W' ⟨C1,C2,rfl,h⟩
 have H:=hide h
 clear h C
 go_wp2_with fail
 go_ret
 exact ⟨C1,C2,rfl,uh H⟩
def icells (l:List Int):List Value:=l.map (Value.int .i64)
theorem icells_append (l r:List Int):icells (l ++ r)=icells l ++ icells r:=by simp [icells]
theorem icells_get (l:List Int) (i:Nat) (t:Int) (h:l[i]?=some t):(icells l)[i]?=some (.int .i64 t):=by simp [icells,h]
theorem iinfo:∃ i,Tryz.prog.info? 2=some i∧i.zero=some (.int .i64 0)∧i.size=1∧i.bytes=8:=by
 have h:(Tryz.prog.info? 2).map (fun i=>(i.zero,i.size,i.bytes))=some (some (.int .i64 0),1,8):=by kernel_rfl
 obtain ⟨i,hi,hzz⟩:=Option.map_eq_some_iff.1 h
 simp only [Prod.mk.injEq] at hzz
 exact ⟨i,hi,hzz.1,hzz.2.1,hzz.2.2⟩
def HoldsI (w:World) (v:Value) (L:List Int):Prop :=
 (∃ ad cp,v=.slice ad 0 cp∧L=[])∨∃ g cp cur,v=.slice (some ⟨g,0,none⟩) L.length cp∧w.heap[g]?=some (.cells cur 2)∧L.length≤cur.size∧∀ j,j<L.length→cur[j]?=(icells L)[j]?
theorem HoldsI.own {w:World} {base:Nat} {v:Value} {L:List Int} (h:w.ownsRow base 2 1 v L.length (icells L)):HoldsI w v L:=by
 rcases h.2 with ⟨h1,h2⟩ | ⟨g,cap,cur,h1,_,h3,h4,_,h6,h7⟩
 ·exact Or.inl ⟨_,_,h1,List.eq_nil_of_length_eq_zero h2⟩
 ·refine Or.inr ⟨g,cap,cur,h1,h3,by rw [h6];omega,fun j hj=>?_⟩
  rw [← h7,List.getElem?_take,if_pos (by omega),Array.getElem?_toList]
theorem HoldsI.below {n:Nat} {w w':World} {v:Value} {L:List Int} (h:HoldsI w v L) (hb:Below n w w') (hn:n=w.heap.size):HoldsI w' v L:=by
 subst hn
 exact h.imp id fun ⟨g,cp,cur,h1,h2,h3⟩=>⟨g,cp,cur,h1,(hb.block g (Array.getElem?_eq_some_iff.1 h2).1).trans h2,h3⟩
theorem HoldsI.form {w:World} {v:Value} {L:List Int} (h:HoldsI w v L):∃ ad cp,v=.slice ad L.length cp:=by
 rcases h with ⟨ad,cp,h1,h2⟩ | ⟨g,cp,cur,h1,_⟩
 ·exact ⟨ad,cp,by rw [h1,h2];rfl⟩
 ·exact ⟨_,_,h1⟩
theorem append_int {wr:World} {ops:Array Oper} {rest:List Oper} {o:Oper} {a:Act} {Q:Exit→Act→World→Prop} (hgd:o.guard=none) (s x:Operand)
  (ho:o.op=.call { callee:=.builtin .append,args:=#[s,x],argTypes:=#[24,24] })
  (base:Nat) (v:Value) (L:List Int) (n:Nat) (hn:L.length=n) (hs:a.eval s=v) (hown:wr.ownsRow base 2 1 v n (icells L)) (t:Int) (hx:a.eval x=.slice (some ⟨wr.heap.size,0,none⟩) 1 1) (hlen:n≤1000000) (hbase:base≤wr.heap.size)
  (h:∀ v' w',w'.ownsRow base 2 1 v' (n+1) (icells (L ++ [t]))→(wr.alloc (.cells #[.int .i64 t] 2)).grownBy w' v.ownBlock→wpList Tryz.prog ops Q rest (a.put o.dst v') w'):wpList Tryz.prog ops Q (o :: rest) a (wr.alloc (.cells #[.int .i64 t] 2)):=by
 obtain ⟨i0,hi0,hz0,hz1,hz2⟩:=iinfo
 refine wpList_append_own _ hgd s x 24 ho base 2 i0 _ 1 8 Tryz.underlying24 hi0 hz0 hz1 hz2 rfl (by decide) v n (icells L) hs (hown.alloc _) ⟨wr.heap.size,0,none⟩ 1 1 [.int .i64 t] hx rfl ?_ ?_ ?_ ?_ ?_ ?_
 ·intro i u hu
  rw [Addr.add_lit,Nat.zero_add,World.cell?_alloc_at _ _ _ _ rfl,← hu]
  simp
 ·intro u hu
  simp only [List.mem_cons,List.not_mem_nil,or_false] at hu
  rw [hu]
  rfl
 ·unfold maxLen;omega
 ·omega
 ·simp;omega
 ·intro v' w2 hown2 hg2 _
  refine h v' w2 ?_ hg2
  rw [icells_append]
  exact hown2
def ArgI (w:World) (v:Value) (L:List Int):Prop :=
 (∃ a cap,v=.slice a L.length cap)∧∀ i (hi:i<L.length),∃ b o cap,v=.slice (some ⟨b,o,none⟩) L.length cap∧b<w.heap.size∧w.cell? ⟨b,o+i,none⟩=some (.int .i64 L[i])
theorem ArgI.below {w w':World} {v:Value} {L:List Int} (h:ArgI w v L) (hb:Below w.heap.size w w'):ArgI w' v L :=
 ⟨h.1,fun i hi=>by
  obtain ⟨b,o,cap,h1,h2,h3⟩:=h.2 i hi
  exact ⟨b,o,cap,h1,Nat.lt_of_lt_of_le h2 hb.size,(hb.cell (p:=⟨b,o+i,none⟩) h2).trans h3⟩⟩
def okI64:Value→Bool
 | .int .i64 n=>decide (-9223372036854775808≤n∧n≤9223372036854775807)
 | _=>false
theorem okI64_get {v:Value} (h:okI64 v=true):∃ x:Int,v=.int .i64 x∧-9223372036854775808≤x∧x≤9223372036854775807:=by
 unfold okI64 at h
 split at h
 ·exact ⟨_,rfl,by simpa using h⟩
 ·cases h
theorem lit_cell {w:World} {g:Nat} {cs:Array Value} {T:TypeId} (h:w.heap[g]?=some (.cells cs T)) (ha:∀ v ∈ cs.toList,okI64 v=true) (r:Nat) (hr:r<cs.size) :
  ∃ x:Int,w.cell? ⟨g,r,none⟩=some (.int .i64 x)∧-9223372036854775808≤x∧x≤9223372036854775807:=by
 obtain ⟨x,hx,h1,h2⟩:=okI64_get (ha cs[r] (by simp))
 exact ⟨x,by rw [cell_of_row w g r cs T (0,0) h,Array.getElem?_eq_getElem hr,hx],h1,h2⟩

end Go.Proofs.YtkcghhkkepndnaaGreatDoor
namespace Go.Proofs.YtkcghhkkepndnaaGreatDoor
open Go.ChangeShapes Go.WideShapes Go.ChangeAt Go.RowKit
theorem laidOut:laidOutB Tryz.prog=true:=by kernel_rfl
theorem cellsU8:Tryz.prog.cellsOf 5=1:=by kernel_rfl
theorem dat_of {H:Type} {enc:TypeId × Value→H} {W:World} {a:Option Addr} {len cap:Nat} {d:DataW H} {ps:List MemPlace}
  (h:DataW.Trod enc Tryz.prog W 0 (fun _=>true) true 22 (.slice a len cap) d ps):Dat W W.heap.size (.slice a len cap) len∧len≤maxLen:=by
 obtain ⟨fuel,hf⟩:=h
 rcases open_ints Tryz.underlying22 Tryz.underlying5 cellsU8 hf with ⟨hcs,hx⟩ | ⟨a',len',cap',zs,hcs,_,hl,hm,hz,hx,hcell,hwz⟩
 ·simp [Value.cells] at hcs
  obtain ⟨rfl,rfl,rfl⟩:=hcs
  exact ⟨⟨⟨_,_,rfl⟩,fun i hi=>absurd hi (Nat.not_lt_zero i)⟩,Nat.zero_le _⟩
 ·simp [Value.cells] at hcs
  obtain ⟨rfl,rfl,rfl⟩:=hcs
  simp only [if_true] at hz
  refine ⟨⟨⟨_,_,rfl⟩,fun i hi=>?_⟩,by omega⟩
  have hc:=hcell i (by omega)
  obtain ⟨b,o,sp⟩:=a'
  have hsp:sp=none:=by
   cases sp with
   | none=>rfl
   | some x =>
    have hc0:=hcell 0 (by omega)
    unfold World.cell? Addr.add at hc0
    split at hc0<;>simp at hc0
  subst hsp
  have hadd:(⟨b,o,none⟩:Addr).add i=⟨b,o+i,none⟩:=by unfold Addr.add;split<;>simp_all
  rw [hadd] at hc
  have hw:=hwz (zs.getD i 0) (by
   rw [List.getD_eq_getElem?_getD,List.getElem?_eq_getElem (by omega)]
   exact List.getElem_mem _)
  have hb:0≤zs.getD i 0∧zs.getD i 0≤255:=by simpa [Lit.wf,IntKind.min,IntKind.max,IntKind.signed,IntKind.bits] using hw
  obtain ⟨x,hx2⟩:=Int.eq_ofNat_of_zero_le hb.1
  refine ⟨b,o,cap,x,rfl,World.block_lt_of_cell? W _ hc,?_,by omega⟩
  rw [hc,hx2]
end Go.Proofs.YtkcghhkkepndnaaGreatDoor
