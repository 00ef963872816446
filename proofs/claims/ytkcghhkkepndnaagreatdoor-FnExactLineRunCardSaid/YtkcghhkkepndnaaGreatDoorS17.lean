/- The program's end at work drops what was heard of; what else lay in memory stands. What is read of bytes as a numbered frame: the program's walk and the model's; memory that was there stands. What was found is laid by copy into new memory (told): the walk; what lay in memory stands. A new deframing in memory: its cells as they are built and stored, and what a text that is copied into it makes of them; no condition but those that are written. The six cells of a block of six; no condition. A row of what was found, as memory holds it; no condition. A number as a pair of bytes, the program's; a block of its own is made. The program makes an iterator over a line; what lay in memory stands. -/
import Derived.Test.YtkcghhkkepndnaaGreatDoorS08
import Derived.Test.YtkcghhkkepndnaaGreatDoorS13
import Derived.Test.YtkcghhkkepndnaaGreatDoorCln
import Derived.Test.YtkcghhkkepndnaaGreatDoorS04
import Derived.Deep.RegionHeld
import Derived.Laws.Tables
import Derived.Test.YtkcghhkkepndnaaGreatDoorShW
import Derived.Deep.WholeRow
import Derived.Test.YtkcghhkkepndnaaGreatDoorS07
import Derived.Test.YtkcghhkkepndnaaGreatDoorS00
import Derived.Deep.DeepCutAuto
namespace Go.Proofs.YtkcghhkkepndnaaGreatDoor
open Go.RowKit
def vaOf (B:Nat) (w:World):Int:=match w.cell? ⟨B,2,none⟩ with
 | some v=>intOf v
 | none=>0
theorem vaOf_at {B:Nat} {w:World} {n:Int} (h:w.cell? ⟨B,2,none⟩=some (.int .i64 n)):vaOf B w=n:=by
 unfold vaOf
 rw [h]
 rfl
section
variable {w0:World} {B M:Nat} {p:Lp} {S Q:List ByteArray} {F:List Nb} {G:List ByteArray} {vq vf vg:Value} {q:World}
theorem Lw.drop1 {t:ByteArray} {o:Obj} (h:Lw w0 B M p (t :: S) Q F G vq vf vg q) (hm:MapH (putB q M o) M ((p.va+1) % 8) S) :
  Lw w0 B M ⟨p.wi,p.vs,(p.va+1) % 8,p.vr,p.ak⟩ S Q F G vq vf vg ((putB q M o).setCell ⟨B,2,none⟩ (.int .i64 ((p.va+1) % 8))):=by
 obtain ⟨k1,k2,k3,k4⟩:=h.frM (q':=putB q M o) (fun k hk=>putB_other _ _ _ _ hk)
 have hk:∀ k,k≠B→((putB q M o).setCell ⟨B,2,none⟩ (.int .i64 ((p.va+1) % 8))).heap[k]?=(putB q M o).heap[k]?:=fun k hk=>heap_setCell_other _ _ _ _ hk
 have nB:∀ g cur T,T≠104→(putB q M o).heap[g]?=some (.cells cur T)→g≠B:=fun g cur T hT h1 e=>by
  rw [e,k1] at h1
  cases h1
  exact hT rfl
 have nM:M≠B:=fun e=>by
  obtain ⟨es,c,h1,_⟩:=h.mp
  rw [e,h.row] at h1
  cases h1
 exact ⟨heap_setCell_same _ _ 2 _ _ _ k1,hm.other (hk M nM),k2.other fun g cur _ h2=>hk g (nB g cur _ (by decide) h2),own_at k3 fun g cur _ h2=>hk g (nB g cur _ (by decide) h2),own_at k4 fun g cur _ h2=>hk g (nB g cur _ (by decide) h2),h.bB,h.bM,(putB_below h.lo h.bM _).setCell (p:=⟨B,2,none⟩) h.bB _⟩
set_option maxHeartbeats 8000000 in
theorem iDrop (h:Lw w0 B M p S Q F G vq vf vg q) (ha:0≤p.va∧p.va≤7) (nr:Int) (hn:0≤nr∧nr≤7) (j:Nat) (hj:(j:Int)=far nr p.va) (hS:j≤S.length) :
  Calls Tryz.prog 123 #[.pointer (some ⟨B,0,none⟩),.int .i64 nr] q fun e q'=>e=.returned (.tuple #[])∧Lw w0 B M ⟨p.wi,p.vs,nr,p.vr,p.ak⟩ (S.drop j) Q F G vq vf vg q':=by
 obtain ⟨wi,vs,va,vr,ak⟩:=p
 dsimp only at *
 unfold far at hj
 have HL:=hide h
 clear h
 go_enter Tryz.func123,Tryz.ntmps123
 go_wp2_with fail
 go_loopw [4] (fun _ wr=>∃ (i:Nat),i≤j∧Lw w0 B M ⟨wi,vs,(va+i) % 8,vr,ak⟩ (S.drop i) Q F G vq vf vg wr) (fun _ wr=>j - ((vaOf B wr - va) % 8).toNat)
 case atStart =>
  refine ⟨0,Nat.zero_le _,?_⟩
  rw [show (va+((0:Nat):Int)) % 8=va by omega,List.drop_zero]
  exact uh HL
 case round =>
  obtain ⟨i,hi,hL⟩:=hrel
  have c2:=(row9l hL.row).2.2.1
  dsimp only at c2
  by_cases hlt:i<j
  ·have d1:((va+(i:Int)) % 8 != nr)=true:=bne_iff_ne.2 (by omega)
   have hil:i<S.length:=by omega
   rw [drop_cons' hil] at hL
   obtain ⟨ob,hdel,hmp⟩:=hL.drew.mp.del 0
   have hD:=hL.drew.drop1 hmp
   have kW:=(hL.drew.frM (q':=putB wr.drew M ob) (fun k hk=>putB_other _ _ _ _ hk)).1
   have e2:=(row9l kW).2.2.1
   have g2:=frz kW 2
   have c6:=(row9l hL.row).2.2.2.2.2.2.1
   dsimp only at hdel hD e2
   have hv0:vaOf B wr=(va+(i:Int)) % 8:=vaOf_at c2
   have hv1:=vaOf_at (row9l hD.row).2.2.1
   have HX:=hide (And.intro hD (And.intro hv0 hv1))
   have C:=hide fun v=>iNumN ((va+i) % 8) (by omega) v
   generalize hW:putB wr.drew M ob=W at *
   clear hW hmp kW hD hL hv0 hv1 HL
   generalize hk:(va+(i:Int)) % 8=k at *
   go_wp2_with fail
   go_region
   clear hdel c2 c6
   go_wp2_with (first
    | (go_at_call 114;refine (uh C _).mono ?_;rintro e w3 ⟨rfl,hw⟩;replace hw:=hw.symm;subst hw))
   go_roundw
   case rel =>
    refine ⟨i+1,by omega,?_⟩
    have:=(uh HX).1
    rw [show (k+1) % 8=(va+((i+1:Nat):Int)) % 8 by omega] at this
    rw [show (k+1) % 8=(va+((i+1:Nat):Int)) % 8 by omega]
    exact this
   case measure =>
    rw [(uh HX).2.1,(uh HX).2.2]
    omega
  ·have e:i=j:=by omega
   subst e
   have d1:((va+(i:Int)) % 8 != nr)=false:=by
    rw [bne_eq_false_iff_eq]
    omega
   have HV:Hid ((va+(i:Int)) % 8=nr):=hide (by omega)
   have HX:=hide hL
   clear hL HL
   go_wp2_with fail
   refine Great.bodyPost_end0 rfl rfl ⟨rfl,?_⟩
   have:=uh HX
   rw [uh HV] at this
   exact this
end
end Go.Proofs.YtkcghhkkepndnaaGreatDoor
namespace Go.Proofs.YtkcghhkkepndnaaGreatDoor
open Go.RowKit
set_option maxHeartbeats 400000 in
theorem cloneStr (t:ByteArray) (w:World) (ht:t.size≤281474976710656):Calls Tryz.prog 60 #[.string t] w fun e w'=>e=.returned (.string t)∧Below w.heap.size w w':=by
 have C:=hide (Any.stringslite_Clone Tryz.laysCln t w ht)
 go_enter Tryz.func60,Tryz.ntmps60
 go_wp2_with fail
 refine (uh C).mono ?_
 rintro e w1 ⟨rfl,hb⟩
 go_wp2
 go_ret
 exact ⟨rfl,hb⟩
def nbZero:Nb:=⟨0,0,0,⟨#[]⟩⟩
def nbSay (c:UInt8) (t:ByteArray):Nb:=if c.toNat % 32=1 then ⟨2,0,(c.toNat / 32:Nat),t⟩ else if c.toNat % 32=9 then ⟨3,0,(c.toNat / 32:Nat),t⟩ else if c.toNat % 2=0 then ⟨1,(c.toNat % 32 / 2:Nat),(c.toNat / 32:Nat),t⟩ else ⟨0,0,0,t⟩
def nbFst (c:UInt8) (t:ByteArray):Nb:=if c.toNat % 32=1 then ⟨2,0,(c.toNat / 32:Nat),t⟩ else if c.toNat % 32=9 then ⟨3,0,(c.toNat / 32:Nat),t⟩ else ⟨1,(c.toNat / 2 % 8:Nat),(c.toNat / 32:Nat),t⟩
def nbRead (t:ByteArray):Nb:=match t.data.toList with
 | []=>nbZero
 | c :: l=>if nbOk (nbSay c (txt l))=true then nbSay c (txt l) else nbZero
theorem say_told (c:UInt8) (l:List UInt8):(nbTold (nbFst c (txt l))=txt (c :: l))↔nbOk (nbSay c (txt l))=true:=by
 have hc:=c.toNat_lt
 by_cases h1:c.toNat % 32=1
 ·have e1:nbFst c (txt l)=nbSay c (txt l):=by unfold nbFst nbSay;rw [if_pos h1,if_pos h1]
  rw [e1]
  cases hk:nbOk (nbSay c (txt l))
  ·rw [told_no hk]
   simp [txt]
  ·rw [told_yes hk]
   have e2:nbSay c (txt l)=⟨2,0,(c.toNat / 32:Nat),txt l⟩:=by unfold nbSay;rw [if_pos h1]
   rw [e2]
   have e3:nbByte ⟨2,0,(c.toNat / 32:Nat),txt l⟩=c:=by
    apply UInt8.toNat_inj.1
    simp [nbByte,nbLow]
    omega
   rw [e3]
   simp [txt]
   apply ByteArray.ext
   simp
 by_cases h9:c.toNat % 32=9
 ·have e1:nbFst c (txt l)=nbSay c (txt l):=by unfold nbFst nbSay;rw [if_neg h1,if_neg h1,if_pos h9,if_pos h9]
  rw [e1]
  cases hk:nbOk (nbSay c (txt l))
  ·rw [told_no hk]
   simp [txt]
  ·rw [told_yes hk]
   have e2:nbSay c (txt l)=⟨3,0,(c.toNat / 32:Nat),txt l⟩:=by unfold nbSay;rw [if_neg h1,if_pos h9]
   rw [e2]
   have e3:nbByte ⟨3,0,(c.toNat / 32:Nat),txt l⟩=c:=by
    apply UInt8.toNat_inj.1
    simp [nbByte,nbLow]
    omega
   rw [e3]
   simp [txt]
   apply ByteArray.ext
   simp
 have e1:nbFst c (txt l)=⟨1,(c.toNat / 2 % 8:Nat),(c.toNat / 32:Nat),txt l⟩:=by unfold nbFst;rw [if_neg h1,if_neg h9]
 have hB:(nbByte (nbFst c (txt l))).toNat=32*(c.toNat / 32)+2*(c.toNat / 2 % 8):=by
  rw [e1]
  simp [nbByte,nbLow]
  omega
 by_cases h2:c.toNat % 2=0∧c.toNat % 32<16
 ·have e2:nbSay c (txt l)=nbFst c (txt l):=by
   rw [e1]
   unfold nbSay
   rw [if_neg h1,if_neg h9,if_pos h2.1,show c.toNat % 32 / 2=c.toNat / 2 % 8 by omega]
  rw [e2]
  cases hk:nbOk (nbFst c (txt l))
  ·rw [told_no hk]
   simp [txt]
  ·rw [told_yes hk]
   have e3:nbByte (nbFst c (txt l))=c:=by
    apply UInt8.toNat_inj.1
    rw [hB]
    omega
   rw [e3,e1]
   simp [txt]
   apply ByteArray.ext
   simp
 ·have e2:nbOk (nbSay c (txt l))=false:=by
   unfold nbSay
   rw [if_neg h1,if_neg h9]
   by_cases h3:c.toNat % 2=0
   ·rw [if_pos h3]
    exact decide_eq_false (by dsimp only;omega)
   ·rw [if_neg h3]
    exact decide_eq_false (by dsimp only;omega)
  rw [e2]
  refine ⟨fun h=>?_,fun h=>by cases h⟩
  exfalso
  cases hk:nbOk (nbFst c (txt l))
  ·rw [told_no hk] at h
   simp [txt] at h
  ·rw [told_yes hk] at h
   have h4:nbByte (nbFst c (txt l))=c:=by
    have h4:=congrArg (fun t:ByteArray=>t.data.toList.head?) h
    simpa [txt] using h4
   rw [h4] at hB
   omega
set_option maxHeartbeats 1000000 in
theorem iSay (c:UInt8) (w:World):Calls Tryz.prog 125 #[.int .u8 c.toNat] w fun e w'=>e=.returned (nbV (nbSay c ⟨#[]⟩))∧Below w.heap.size w w':=by
 have hc:=c.toNat_lt
 have ho:bits .and .i64 (c.toNat:Int) 31=((c.toNat % 32:Nat):Int):=by
  rw [show (31:Int)=((31:Nat):Int) from rfl,i64_and_nat _ _ (by omega) (by omega)]
  rw [show (31:Nat)=2 ^ 5 - 1 from rfl,Nat.and_two_pow_sub_one_eq_mod]
 have ho2:bits .and .i64 ((c.toNat % 32:Nat):Int) 1=((c.toNat % 2:Nat):Int):=by
  rw [show (1:Int)=((1:Nat):Int) from rfl,i64_and_nat _ _ (by omega) (by omega)]
  rw [show (1:Nat)=2 ^ 1 - 1 from rfl,Nat.and_two_pow_sub_one_eq_mod]
  congr 1
  omega
 unfold nbSay
 generalize c.toNat=n at *
 by_cases h1:n % 32=1
 ·rw [if_pos h1]
  go_enter Tryz.func125,Tryz.ntmps125
  go_wp2
  refine bodyPost_ret (v:=.agg #[.int .i64 2,.int .i64 0,.int .i64 ((n:Int) / 32),.string ⟨#[]⟩]) (by simp [results,Tryz.results125,go_sem]) rfl ⟨by simp,?_⟩
  exact (Below.refl _ _).alloc (Nat.le_refl _) _
 by_cases h9:n % 32=9
 ·rw [if_neg h1,if_pos h9]
  go_enter Tryz.func125,Tryz.ntmps125
  go_wp2
  refine bodyPost_ret (v:=.agg #[.int .i64 3,.int .i64 0,.int .i64 ((n:Int) / 32),.string ⟨#[]⟩]) (by simp [results,Tryz.results125,go_sem]) rfl ⟨by simp,?_⟩
  exact (Below.refl _ _).alloc (Nat.le_refl _) _
 have f1:(((n % 32:Nat):Int) == 1)=false:=beq_eq_false_iff_ne.2 (by omega)
 have f9:(((n % 32:Nat):Int) == 9)=false:=beq_eq_false_iff_ne.2 (by omega)
 rw [if_neg h1,if_neg h9]
 by_cases h2:n % 2=0
 ·rw [if_pos h2]
  have f2:(((n % 2:Nat):Int) == 0)=true:=beq_iff_eq.2 (by omega)
  have HB:Hid ((n % 32 / 2:Nat)=(n:Int) % 32 / 2):=hide (by omega)
  generalize hm:n % 32=m at *
  go_enter Tryz.func125,Tryz.ntmps125
  go_wp2
  refine bodyPost_ret (v:=.agg #[.int .i64 1,.int .i64 ((m:Int) / 2),.int .i64 ((n:Int) / 32),.string ⟨#[]⟩]) (by simp [results,Tryz.results125,go_sem]) rfl ⟨by simp,?_⟩
  exact (Below.refl _ _).alloc (Nat.le_refl _) _
 ·rw [if_neg h2]
  have f2:(((n % 2:Nat):Int) == 0)=false:=beq_eq_false_iff_ne.2 (by omega)
  generalize hm:n % 32=m at *
  go_enter Tryz.func125,Tryz.ntmps125
  go_wp2
  refine bodyPost_ret (v:=.agg #[.int .i64 0,.int .i64 0,.int .i64 0,.string ⟨#[]⟩]) (by simp [results,Tryz.results125,go_sem]) rfl ⟨by simp,?_⟩
  exact (Below.refl _ _).alloc (Nat.le_refl _) _
end Go.Proofs.YtkcghhkkepndnaaGreatDoor
namespace Go.Proofs.YtkcghhkkepndnaaGreatDoor
open Go.RowKit
def fcells (fs:List Hd.Fd):List Value:=fs.flatMap fun f=>[.int .i64 f.kind,.string (txt f.text)]
theorem fcells_len (fs:List Hd.Fd):(fcells fs).length=fs.length*2:=by
 induction fs with
 | nil=>rfl
 | cons f fs ih=>simp [fcells] at ih ⊢;omega
theorem fcells_append (fs gs:List Hd.Fd):fcells (fs ++ gs)=fcells fs ++ fcells gs:=by simp [fcells]
theorem fcells_one (fs:List Hd.Fd):∀ v ∈ fcells fs,v.oneCell'=true:=by
 intro v hv
 simp only [fcells,List.mem_flatMap,List.mem_cons,List.not_mem_nil,or_false] at hv
 obtain ⟨f,_,h | h⟩:=hv<;>subst h<;>rfl
theorem fcells_get (fs:List Hd.Fd) (i:Nat) (f:Hd.Fd) (h:fs[i]?=some f):(fcells fs)[i*2]?=some (.int .i64 f.kind)∧(fcells fs)[i*2+1]?=some (.string (txt f.text)):=by
 induction fs generalizing i with
 | nil=>simp at h
 | cons d fs ih =>
  cases i with
  | zero =>
   simp at h
   subst h
   exact ⟨rfl,rfl⟩
  | succ i =>
   have:=ih i (by simpa using h)
   have e:fcells (d :: fs)=.int .i64 d.kind :: .string (txt d.text) :: fcells fs:=rfl
   rw [e,show (i+1)*2=i*2+2 by omega]
   exact this
theorem fcells_cell (fs:List Hd.Fd) (j:Nat) (v:Value) (h:(fcells fs)[j]?=some v):∃ i f,fs[i]?=some f∧((j=i*2∧v=.int .i64 f.kind)∨(j=i*2+1∧v=.string (txt f.text))):=by
 have hj:j<fs.length*2:=by rw [← fcells_len];exact get_lt h
 have hi:j / 2<fs.length:=by omega
 have g:=fcells_get fs (j / 2) fs[j / 2] (List.getElem?_eq_getElem hi)
 refine ⟨j / 2,fs[j / 2],List.getElem?_eq_getElem hi,?_⟩
 rcases Nat.mod_two_eq_zero_or_one j with e | e
 ·left
  have ej:j / 2*2=j:=by omega
  rw [ej] at g
  exact ⟨ej.symm,Option.some.inj (h.symm.trans g.1)⟩
 ·right
  have ej:j / 2*2+1=j:=by omega
  rw [ej] at g
  exact ⟨ej.symm,Option.some.inj (h.symm.trans g.2)⟩
theorem finfo:∃ i,Tryz.prog.info? 113=some i∧i.zero=some (.agg #[.int .i64 0,.string ⟨#[]⟩])∧i.size=2∧i.bytes=24:=by
 have h:(Tryz.prog.info? 113).map (fun i=>(i.zero,i.size,i.bytes))=some (some (.agg #[.int .i64 0,.string ⟨#[]⟩]),2,24):=by kernel_rfl
 obtain ⟨i,hi,hzz⟩:=Option.map_eq_some_iff.1 h
 simp only [Prod.mk.injEq] at hzz
 exact ⟨i,hi,hzz.1,hzz.2.1,hzz.2.2⟩
theorem run_copy_sz {P:Program} (w:World) (dT sT ty elem:TypeId) (b o dLen dCap:Nat) (a:Addr) (sLen sCap n size:Nat) (cs:List Value)
  (hu:P.underlying dT=some (.slice elem)) (hs:(P.info? elem).map (·.size)=some size) (hn:Nat.min sLen dLen=n) (hl:cs.length=n*size)
  (hsrc:∀ j v,cs[j]?=some v→w.cell? (a.add j)=some v) (hc:∀ j,j<cs.length→(w.cell? ⟨b,o+j,none⟩).isSome=true) (hf:∀ j,j<cs.length→w.frozen? ⟨b,o+j,none⟩=false) (h1:∀ v ∈ cs,v.oneCell'=true) :
  (Builtin.copy_ #[dT,sT] ty #[.slice (some ⟨b,o,none⟩) dLen dCap,.slice (some a) sLen sCap]).run P w=.ok (goInt n) (w.setCells b o cs):=by
 have hld:=run_loadCells_list (P:=P) w a cs hsrc
 have hst:=run_storeCells_cells (P:=P) b o cs 0 w (by simpa using hc) (by simpa using hf) h1
 rw [hl] at hld
 cases hq:P.info? elem with
 | none=>simp [hq] at hs
 | some i =>
  have hi:i.size=size:=by simpa [hq] using hs
  simp [Builtin.copy_,run_underlying hu,Builtin.lenOf,Builtin.firstCells,sizeOf,typeInfo,hq,hi,hn,hld,hst]
def setAll (cs:Array Value):Nat→List Value→Array Value
 | _,[]=>cs
 | o,v :: r=>setAll (cs.setIfInBounds o v) (o+1) r
theorem setAll_size (vs:List Value):∀ (cs:Array Value) (o:Nat),(setAll cs o vs).size=cs.size:=by
 induction vs with
 | nil=>intro cs o;rfl
 | cons v r ih=>intro cs o;rw [setAll,ih,Array.size_setIfInBounds]
theorem heap_setAll (b:Nat) (T:TypeId) (vs:List Value):∀ (w:World) (cs:Array Value) (o:Nat),w.heap[b]?=some (.cells cs T)→(w.setCells b o vs).heap[b]?=some (.cells (setAll cs o vs) T):=by
 induction vs with
 | nil=>intro w cs o h;exact h
 | cons v r ih=>intro w cs o h;exact ih _ _ _ (heap_setCell_same w b o cs T v h)
theorem setAll_get (vs:List Value):∀ (cs:Array Value) (o j:Nat),o+vs.length≤cs.size→(setAll cs o vs)[j]?=if o≤j∧j<o+vs.length then vs[j - o]? else cs[j]?:=by
 induction vs with
 | nil=>intro cs o j _;rw [if_neg (by simp)];rfl
 | cons v r ih =>
  intro cs o j h
  simp only [List.length_cons] at h
  rw [setAll,ih _ _ _ (by rw [Array.size_setIfInBounds];omega)]
  simp only [List.length_cons]
  by_cases h1:o+1≤j∧j<o+1+r.length
  ·rw [if_pos h1,if_pos (by omega),show j - o=(j - (o+1))+1 by omega]
   rfl
  ·rw [if_neg h1]
   by_cases h2:j=o
   ·subst h2
    rw [if_pos (by omega),set_eq (by omega),Nat.sub_self]
    rfl
   ·rw [if_neg (by omega),set_ne (by omega)]
theorem near_setCells (b:Nat) (vs:List Value):∀ (a w:World) (o:Nat),Near b a w→Near b a (w.setCells b o vs):=by
 induction vs with
 | nil=>intro a w o h;exact h
 | cons v r ih=>intro a w o h;exact ih _ _ _ (h.setCell o v)
set_option maxHeartbeats 1000000 in
theorem told (w:World) (B g:Nat) (wide long:Bool) (held:List UInt8) (fs:List Hd.Fd) (h:Dw w B g wide long held fs) :
  Calls Tryz.prog 119 #[.pointer (some ⟨B,0,none⟩)] w fun e w'=>∃ v,e=.returned v∧w'.ownsRow w.heap.size 113 2 v fs.length (fcells fs)∧Below w.heap.size w w':=by
 have hBw:=h.lt
 obtain ⟨cs,hB,hd⟩:=h
 obtain ⟨fi,hi1,hi2,hi3,hi4⟩:=finfo
 have e2:w.cell? ⟨B,1108,none⟩=some (.int .i64 fs.length):=by rw [cell_of_row _ _ _ _ _ _ hB];exact hd.cn
 have hl:=hd.fl
 have HB:=hide hB
 have HD:=hide hd
 clear hB hd
 go_enter Tryz.func119,Tryz.ntmps119
 go_wp2_with (first
  | (at_make;refine wpList_make_full w rfl _ _ 110 rfl w.heap.size 113 fi _ 2 Tryz.underlying110 hi1 hi2 hi3 .i64 .i64 _ _ fs.length rfl rfl rfl rfl (by rw [hi4];omega) (by unfold maxLen;omega) (Nat.le_refl _) ?_;rintro w1 ho1 hg1;have HO1:=hide ho1;have HG1:=hide hg1;clear ho1 hg1))
 have hb1:Below w.heap.size w w1:=(Below.refl _ _).grown (uh HG1) (Nat.le_refl _) (fun k hk=>by cases hk)
 have hB1:w1.heap[B]?=some (.cells cs 154):=(hb1.block B hBw).trans (uh HB)
 have e3:w1.cell? ⟨B,1108,none⟩=some (.int .i64 fs.length):=by rw [cell_of_row _ _ _ _ _ _ hB1];exact (uh HD).cn
 obtain ⟨cur,hc1,hc2⟩:∃ cur,w1.heap[w.heap.size]?=some (.cells cur 113)∧cur.size=fs.length*2:=by
  rcases (uh HO1).2 with ⟨k,_⟩ | ⟨g',cap,cur,k1,_,k3,_,_,k6,_⟩
  ·cases k
  ·simp only [Value.slice.injEq,Option.some.injEq,Addr.mk.injEq,true_and,and_true] at k1
   obtain ⟨rfl,rfl⟩:=k1
   exact ⟨cur,k3,k6⟩
 have hcp:(Builtin.copy_ #[110,110] 3 #[.slice (some ⟨w.heap.size,0,none⟩) fs.length fs.length,.slice (some ⟨B,308,none⟩) fs.length 400]).run Tryz.prog w1.drew=.ok (goInt fs.length) (w1.drew.setCells w.heap.size 0 (fcells fs)):=by
  refine run_copy_sz w1.drew 110 110 _ 113 w.heap.size 0 _ _ ⟨B,308,none⟩ _ _ fs.length 2 (fcells fs) Tryz.underlying110 (by rw [hi1];simp [hi3]) (Nat.min_self _) (fcells_len fs) ?_ ?_ ?_ (fcells_one fs)
  ·intro j v hv
   rw [Addr.add_lit]
   show w1.cell? _=_
   rw [cell_of_row _ _ _ _ _ _ hB1]
   obtain ⟨i,f,hf,(⟨rfl,rfl⟩ | ⟨rfl,rfl⟩)⟩:=fcells_cell fs j v hv
   ·exact (uh HD).fk i f hf
   ·exact (uh HD).ft i f hf
  ·intro j hj
   rw [fcells_len] at hj
   show (w1.cell? _).isSome=true
   rw [cell_of_row _ _ _ _ _ _ hc1,Nat.zero_add,Array.getElem?_eq_getElem (by omega)]
   rfl
  ·intro j hj
   exact frz (w:=w1) hc1 _
 have hle:(fs.length:Int)≤400:=by omega
 have HC1:=hide hc1
 clear hB1 hc1
 go_region
 go_wp2
 go_ret
 have hs0:0+(fcells fs).length≤cur.size:=by rw [fcells_len,hc2];omega
 have hbE:=heap_setAll w.heap.size 113 (fcells fs) w1.drew cur 0 (uh HC1)
 have hN:Near w.heap.size w1 (w1.drew.setCells w.heap.size 0 (fcells fs)):=near_setCells _ _ _ _ _ (Near.refl _ _).drew
 refine ⟨_,rfl,⟨by rw [fcells_len],Or.inr ⟨w.heap.size,fs.length,_,rfl,Nat.le_refl _,hbE,Nat.le_refl _,by unfold maxLen;omega,by rw [setAll_size,hc2],?_⟩⟩,hb1.trans (hN.below (Nat.le_refl _) hb1.size)⟩
 apply List.ext_getElem?
 intro j
 rw [List.getElem?_take,Array.getElem?_toList,setAll_get _ _ _ _ hs0,fcells_len]
 by_cases hj:j<fs.length*2
 ·rw [if_pos hj,if_pos (by omega),Nat.sub_zero]
 ·rw [if_neg hj,List.getElem?_eq_none (by rw [fcells_len];omega)]
end Go.Proofs.YtkcghhkkepndnaaGreatDoor
namespace Go.Proofs.YtkcghhkkepndnaaGreatDoor
open Go.RowKit
def isAggV:Value→Bool
 | .agg _=>true
 | _=>false
theorem isAggV_get {z:Value} (h:isAggV z=true):∃ Z,z=.agg Z:=by
 cases z<;>first | exact ⟨_,rfl⟩ | cases h
theorem infoD:∃ (it:TypeInfo) (z:Value),Tryz.prog.info? 154=some it∧it.zero=some z∧it.size=1109∧z.cells.size=1109∧z.cells[307]?=some (.int .i64 0)∧z.cells[1108]?=some (.int .i64 0)∧z.cells.toList.all (fun v=>v.oneCell')=true∧(∃ Z,z=.agg Z):=by
 have h1:(Tryz.prog.info? 154).map (fun i=>(i.zero.map fun z=>(z.cells.size,z.cells[307]?,z.cells[1108]?),i.size))=some (some (1109,some (.int .i64 0),some (.int .i64 0)),1109):=by kernel_rfl
 have h2:(Tryz.prog.info? 154).map (fun i=>(i.zero.map fun z=>(z.cells.toList.all (fun v=>v.oneCell'),isAggV z)))=some (some (true,true)):=by kernel_rfl
 obtain ⟨it,hi,h3⟩:=Option.map_eq_some_iff.1 h1
 rw [hi] at h2
 simp only [Option.map_some,Option.some.injEq,Prod.mk.injEq] at h2 h3
 obtain ⟨h4,h5⟩:=h3
 obtain ⟨z,hz,h6⟩:=Option.map_eq_some_iff.1 h4
 rw [hz] at h2
 simp only [Option.map_some,Option.some.injEq,Prod.mk.injEq] at h2 h6
 exact ⟨it,z,hi,hz,h5,h6.1,h6.2.1,h6.2.2,h2.1,isAggV_get h2.2⟩
def cellsD (Z:Array Value) (wide long:Bool) (fn:Value):Array Value:=((Z.setIfInBounds 0 (.bool wide)).setIfInBounds 1 (.bool long)).setIfInBounds 2 fn
theorem dcD (Z:Array Value) (hs:Z.size=1109) (h7:Z[307]?=some (.int .i64 0)) (h8:Z[1108]?=some (.int .i64 0)) (wide long:Bool) (g:Nat) :
  Dc (cellsD Z wide long (.func (.func 134) #[] #[.pointer (some ⟨g,0,none⟩)])) g wide long [] [] where
 size:=by simp [cellsD,hs]
 c0:=by unfold cellsD;rw [set_ne (by decide),set_ne (by decide),set_eq (by omega)]
 c1:=by unfold cellsD;rw [set_ne (by decide),set_eq (by rw [set_size];omega)]
 c2:=by unfold cellsD;rw [set_eq (by rw [set_size,set_size];omega)]
 cz:=by unfold cellsD;rw [set_ne (by decide),set_ne (by decide),set_ne (by decide)];exact h7
 cn:=by unfold cellsD;rw [set_ne (by decide),set_ne (by decide),set_ne (by decide)];exact h8
 hl:=by simp
 fl:=by simp
 hv:=fun i c h=>by simp at h
 fk:=fun i f h=>by simp at h
 ft:=fun i f h=>by simp at h
theorem dcS (Z:Array Value) (hs:Z.size=1109) (h7:Z[307]?=some (.int .i64 0)) (h8:Z[1108]?=some (.int .i64 0)) (wide long:Bool) (g:Nat) :
  Dc (setAll Z 0 (((Z.toList.set 0 (.bool wide)).set 1 (.bool long)).set 2 (.func (.func 134) #[] #[.pointer (some ⟨g,0,none⟩)]))) g wide long [] []:=by
 have e:setAll Z 0 (((Z.toList.set 0 (.bool wide)).set 1 (.bool long)).set 2 (.func (.func 134) #[] #[.pointer (some ⟨g,0,none⟩)]))=cellsD Z wide long (.func (.func 134) #[] #[.pointer (some ⟨g,0,none⟩)]):=by
  apply Array.ext_getElem?
  intro j
  have hl:(((Z.toList.set 0 (.bool wide)).set 1 (.bool long)).set 2 (.func (.func 134) #[] #[.pointer (some ⟨g,0,none⟩)])).length=1109:=by simp [hs]
  rw [setAll_get _ _ _ _ (by rw [hl,hs];omega),hl]
  unfold cellsD
  by_cases hj:j<1109
  ·rw [if_pos (by omega),Nat.sub_zero]
   simp only [List.getElem?_set,Array.getElem?_setIfInBounds,List.length_set,Array.length_toList,Array.size_setIfInBounds,Array.getElem?_toList]
  ·rw [if_neg (by omega),set_ne (by omega),set_ne (by omega),set_ne (by omega)]
 rw [e]
 exact dcD Z hs h7 h8 wide long g
theorem store_D (Z:Array Value) (hs:Z.size=1109) (ho:Z.toList.all (fun v=>v.oneCell')=true) (wide long:Bool) (g B:Nat) (W:World) (hB:W.heap[B]?=some (.cells Z 154)) :
  (storeCells ⟨B,0,none⟩ (((Z.toList.set 0 (.bool wide)).set 1 (.bool long)).set 2 (.func (.func 134) #[] #[.pointer (some ⟨g,0,none⟩)]))).run Tryz.prog W=.ok () (W.setCells B 0 (((Z.toList.set 0 (.bool wide)).set 1 (.bool long)).set 2 (.func (.func 134) #[] #[.pointer (some ⟨g,0,none⟩)]))):=by
 have h:=run_storeCells_cells (P:=Tryz.prog) B 0 (((Z.toList.set 0 (.bool wide)).set 1 (.bool long)).set 2 (.func (.func 134) #[] #[.pointer (some ⟨g,0,none⟩)])) 0 W (fun j hj=>by
  have hj2:j<1109:=by simpa [hs] using hj
  rw [cell_of_row _ _ _ _ _ _ hB,Array.getElem?_eq_getElem (by omega)]
  rfl) (fun j _=>frz hB _) (fun v hv=>by
  have h1:=List.all_eq_true.1 ho
  rcases List.mem_or_eq_of_mem_set hv with hv | rfl
  ·rcases List.mem_or_eq_of_mem_set hv with hv | rfl
   ·rcases List.mem_or_eq_of_mem_set hv with hv | rfl
    ·exact h1 v hv
    ·rfl
   ·rfl
  ·rfl)
 simpa using h
theorem Dc.fill {cs:Array Value} {g:Nat} {wide long:Bool} (h:Dc cs g wide long [] []) (l:List UInt8) (hl:l.length≤304) (s:Int) (hs:s=(l.length:Int)) :
  Dc ((setAll cs 3 (vals l)).setIfInBounds 307 (.int .i64 s)) g wide long l []:=by
 have hb:3+(vals l).length≤cs.size:=by rw [vals_len,h.size];omega
 have ho:∀ j,j<3∨307≤j→(setAll cs 3 (vals l))[j]?=cs[j]?:=fun j hj=>by
  rw [setAll_get _ _ _ _ hb,if_neg (by rw [vals_len];omega)]
 constructor
 ·rw [set_size,setAll_size,h.size]
 ·rw [set_ne (by decide),ho _ (by omega)];exact h.c0
 ·rw [set_ne (by decide),ho _ (by omega)];exact h.c1
 ·rw [set_ne (by decide),ho _ (by omega)];exact h.c2
 ·rw [set_eq (by rw [setAll_size,h.size];decide),hs]
 ·rw [set_ne (by decide),ho _ (by omega)];exact h.cn
 ·exact hl
 ·simp
 ·intro i c hc
  have hi:=get_lt hc
  rw [set_ne (by omega),setAll_get _ _ _ _ hb,if_pos (by rw [vals_len];omega),show 3+i - 3=i by omega]
  simp [vals,nums,hc]
 ·intro i f hf;simp at hf
 ·intro i f hf;simp at hf
theorem run_copy_str {P:Program} (w:World) (dT sT ty elem:TypeId) (b o dLen dCap:Nat) (t:ByteArray)
  (hu:P.underlying dT=some (.slice elem)) (hs:(P.info? elem).map (·.size)=some 1) (hn:t.size≤dLen)
  (hc:∀ j,j<t.size→(w.cell? ⟨b,o+j,none⟩).isSome=true) (hf:∀ j,j<t.size→w.frozen? ⟨b,o+j,none⟩=false) :
  (Builtin.copy_ #[dT,sT] ty #[.slice (some ⟨b,o,none⟩) dLen dCap,.string t]).run P w=.ok (goInt t.size) (w.setCells b o (vals t.data.toList)):=by
 have hl:(vals t.data.toList).length=t.size:=by rw [vals_len,Array.length_toList];rfl
 have hst:=run_storeCells_cells (P:=P) b o (vals t.data.toList) 0 w (by rw [hl];simpa using hc) (by rw [hl];simpa using hf) (fun v hv=>by
  simp only [vals,nums,List.map_map,List.mem_map] at hv
  obtain ⟨x,_,rfl⟩:=hv
  rfl)
 have hmin:Nat.min t.size dLen=t.size:=Nat.min_eq_left hn
 have hcells:List.take t.size (List.map (fun b:UInt8=>Value.int .u8 b.toNat) t.data.toList)=vals t.data.toList:=by
  rw [List.take_of_length_le (by rw [List.length_map,Array.length_toList];exact Nat.le_refl _)]
  simp [vals,nums]
 cases hq:P.info? elem with
 | none=>simp [hq] at hs
 | some i =>
  simp only [Nat.add_zero] at hst
  simp [Builtin.copy_,run_underlying hu,Builtin.lenOf,Builtin.firstCells,sizeOf,typeInfo,hq,hmin]
  rw [hcells,hst]
  rfl
end Go.Proofs.YtkcghhkkepndnaaGreatDoor
namespace Go.Proofs.YtkcghhkkepndnaaGreatDoor
open Go.RowKit
theorem row6 {w:World} {B:Nat} {x0 x1 x2 x3 x4 x5:Value} {T:TypeId} (h:w.heap[B]?=some (.cells #[x0,x1,x2,x3,x4,x5] T)) :
  w.cell? ⟨B,0,none⟩=some x0∧w.cell? ⟨B,1,none⟩=some x1∧w.cell? ⟨B,2,none⟩=some x2∧w.cell? ⟨B,3,none⟩=some x3∧w.cell? ⟨B,4,none⟩=some x4∧w.cell? ⟨B,5,none⟩=some x5 :=
 ⟨by rw [cell_of_row _ _ 0 _ _ (0,0) h];rfl,by rw [cell_of_row _ _ 1 _ _ (0,0) h];rfl,by rw [cell_of_row _ _ 2 _ _ (0,0) h];rfl,by rw [cell_of_row _ _ 3 _ _ (0,0) h];rfl,
  by rw [cell_of_row _ _ 4 _ _ (0,0) h];rfl,by rw [cell_of_row _ _ 5 _ _ (0,0) h];rfl⟩
end Go.Proofs.YtkcghhkkepndnaaGreatDoor
namespace Go.Proofs.YtkcghhkkepndnaaGreatDoor
open Go.RowKit
def HoldsF (w:World) (v:Value) (F:List Hd.Fd):Prop :=
 (∃ ad cp,v=.slice ad 0 cp∧F=[])∨∃ g cp cur,v=.slice (some ⟨g,0,none⟩) F.length cp∧w.heap[g]?=some (.cells cur 113)∧F.length*2≤cur.size∧∀ j,j<F.length*2→cur[j]?=(fcells F)[j]?
theorem HoldsF.own {w:World} {base:Nat} {v:Value} {F:List Hd.Fd} (h:w.ownsRow base 113 2 v F.length (fcells F)):HoldsF w v F:=by
 rcases h.2 with ⟨h1,h2⟩ | ⟨g,cap,cur,h1,_,h3,h4,_,h6,h7⟩
 ·exact Or.inl ⟨_,_,h1,List.eq_nil_of_length_eq_zero h2⟩
 ·refine Or.inr ⟨g,cap,cur,h1,h3,by rw [h6];omega,fun j hj=>?_⟩
  rw [← h7,List.getElem?_take,if_pos hj,Array.getElem?_toList]
theorem HoldsF.same {w w':World} {v:Value} {F:List Hd.Fd} (h:HoldsF w v F) (hb:∀ g,v.ownBlock=some g→w'.heap[g]?=w.heap[g]?):HoldsF w' v F :=
 h.imp id fun ⟨g,cp,cur,h1,h2,h3⟩=>⟨g,cp,cur,h1,(hb g (by rw [h1];rfl)).trans h2,h3⟩
theorem HoldsF.lt {w:World} {v:Value} {F:List Hd.Fd} (h:HoldsF w v F) (hF:F≠[]):∃ g,v.ownBlock=some g∧g<w.heap.size:=by
 rcases h with ⟨_,_,_,e⟩ | ⟨g,cp,cur,h1,h2,_⟩
 ·exact absurd e hF
 ·exact ⟨g,by rw [h1];rfl,(Array.getElem?_eq_some_iff.1 h2).1⟩
theorem HoldsF.below {w w':World} {v:Value} {F:List Hd.Fd} (h:HoldsF w v F) (hb:Below w.heap.size w w'):HoldsF w' v F :=
 h.imp id fun ⟨g,cp,cur,h1,h2,h3⟩=>⟨g,cp,cur,h1,(hb.block g (Array.getElem?_eq_some_iff.1 h2).1).trans h2,h3⟩
theorem HoldsF.form {w:World} {v:Value} {F:List Hd.Fd} (h:HoldsF w v F):∃ ad cp,v=.slice ad F.length cp:=by
 rcases h with ⟨ad,cp,h1,h2⟩ | ⟨g,cp,cur,h1,_⟩
 ·exact ⟨ad,cp,by rw [h1,h2];rfl⟩
 ·exact ⟨_,_,h1⟩
end Go.Proofs.YtkcghhkkepndnaaGreatDoor
namespace Go.Proofs.YtkcghhkkepndnaaGreatDoor
open Go.RowKit
theorem hi_byte {k:Nat} (hk:k<65536):(k:Int) / 256=((UInt8.ofNat (k / 256)).toNat:Int):=by
 have:(UInt8.ofNat (k / 256)).toNat=k / 256:=by simp;omega
 omega
theorem lo_byte (k:Nat):(k:Int) % 256=((UInt8.ofNat k).toNat:Int):=by
 have:(UInt8.ofNat k).toNat=k % 256:=by simp
 omega
set_option maxHeartbeats 400000 in
theorem pairOf (k:Nat) (hk:k<65536) (w:World) :
  Calls Tryz.prog 108 #[.int .i64 k] w fun e w'=>e=.returned (.agg #[.int .u8 (UInt8.ofNat (k / 256)).toNat,  .int .u8 (UInt8.ofNat k).toNat])∧w'=w.alloc (.cells #[.int .u8 (UInt8.ofNat (k / 256)).toNat,.int .u8 (UInt8.ofNat k).toNat] 143):=by
 rw [← hi_byte hk,← lo_byte k]
 go_enter Tryz.func108,Tryz.ntmps108
 go_wp2
 refine bodyPost_ret (v:=.agg #[.int .u8 ((k:Int) / 256),.int .u8 ((k:Int) % 256)]) (by simp [results,Tryz.results108,go_sem]) rfl ⟨rfl,rfl⟩
end Go.Proofs.YtkcghhkkepndnaaGreatDoor
namespace Go.Proofs.YtkcghhkkepndnaaGreatDoor
open Go.RowKit
def AnI (B k cnt:Nat) (W:World) (e:Ending) (W':World):Prop:=∃ C1 C2,e=.returned (.func (.func 89) #[] #[.pointer (some ⟨C1,0,none⟩),.pointer (some ⟨C2,0,none⟩)])∧W'.heap[C1]?=some (.cells #[.int .i64 (cnt:Int)] 3)∧W'.heap[C2]?=some (.cells #[.pointer (some ⟨B,k,none⟩)] 108)∧Below W.heap.size W W'∧W.heap.size≤C1∧W.heap.size≤C2
set_option maxHeartbeats 1000000 in
theorem iCome (B k cnt:Nat) (W:World):Calls Tryz.prog 63 #[.pointer (some ⟨B,k,none⟩),.int .i64 (cnt:Int)] W fun e W'=>AnI B k cnt W e W':=by
 have h1:=heap_alloc_new W (.cells #[.pointer (some ⟨B,k,none⟩)] 108)
 have h2:=heap_alloc_new (W.alloc (.cells #[.pointer (some ⟨B,k,none⟩)] 108)) (.cells #[.int .i64 (cnt:Int)] 3)
 have hb1:Below W.heap.size W (W.alloc (.cells #[.pointer (some ⟨B,k,none⟩)] 108)):=(Below.refl _ _).alloc (Nat.le_refl _) _
 have hb2:Below W.heap.size W ((W.alloc (.cells #[.pointer (some ⟨B,k,none⟩)] 108)).alloc (.cells #[.int .i64 (cnt:Int)] 3)):=hb1.alloc (by simp) _
 rw [World.size_alloc] at h2
 have H:=hide (And.intro ((Below.heap_alloc _ (.cells #[.int .i64 (cnt:Int)] 3) _ (by simp)).trans h1) (And.intro h2 hb2))
 clear h1 h2 hb1 hb2
 go_enter Tryz.func63,Tryz.ntmps63
 go_wp2
 go_ret
 exact ⟨_,_,rfl,(uh H).2.1,(uh H).1,(uh H).2.2,Nat.le_succ _,Nat.le_refl _⟩
set_option maxHeartbeats 1000000 in
theorem iComeAll {B k:Nat} {ad:Option Addr} {q cp:Nat} {W:World} (hc:W.cell? ⟨B,k,none⟩=some (.slice ad q cp)):Calls Tryz.prog 48 #[.pointer (some ⟨B,k,none⟩)] W fun e W'=>AnI B k q W e W':=by
 have C:=hide (iCome B k q W)
 go_enter Tryz.func48,Tryz.ntmps48
 go_wp2_with fail
 refine (uh C).mono ?_
 rintro e W' ⟨C1,C2,rfl,h⟩
 have H:=hide h
 clear h C
 go_wp2_with fail
 go_ret
 exact ⟨C1,C2,rfl,uh H⟩
end Go.Proofs.YtkcghhkkepndnaaGreatDoor
