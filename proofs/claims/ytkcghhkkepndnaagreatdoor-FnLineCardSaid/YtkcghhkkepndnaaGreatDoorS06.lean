/- A line of sent frames inside a struct in memory: its first is taken off, one is put behind; what lay in memory stands but for the line and its row; no condition but those named. A text with a bit turned. Plain mathematics. Rows of numbered frames in memory, and one put behind others; no condition but those named. A scope in which the run jumps to several labels: what holds at every jump, a label each, and a measure that every pass lowers; after the library's law for one label. Stuff, the program's and the model's: of an accm and a text of few enough bytes what is stuffed; what lay in memory stands. A deframing in memory: what its cells hold, and the walks of put and tell; only the deframing itself and new memory are turned. What was found is laid by copy into new memory (told): the walk; what lay in memory stands. A new deframing in memory: its cells as they are built and stored, and what a text that is copied into it makes of them; no condition but those that are written. A row of what was found, as memory holds it; no condition. The mathematics of packets of protocols: which numbers are protocols, what a packet's head is, what is read of a text; a text comes back from its packet; no program, no condition. -/
import Derived.Test.YtkcghhkkepndnaaGreatDoorS04
import Derived.Test.YtkcghhkkepndnaaGreatDoorShW
import Derived.Deep.MidRow
import Derived.Deep.DeepCutAuto
import Derived.Test.YtkcghhkkepndnaaGreatDoorS01
import Derived.Test.YtkcghhkkepndnaaGreatDoorS00
import Derived.ScopeJumps
import Derived.WalkMore
import Derived.Deep.WholeRow
import Derived.Deep.RegionHeld
import Derived.Laws.Tables
namespace Go.Proofs.YtkcghhkkepndnaaGreatDoor
open Go.RowKit
theorem set_blk {B:Nat} {T:TypeId}:∀ (Y vs X Z:List Value) (W:World),W.heap[B]?=some (.cells (X ++ Y ++ Z).toArray T)→vs.length=Y.length→(W.setCells B X.length vs).heap[B]?=some (.cells (X ++ vs ++ Z).toArray T)
 | [],vs,X,Z,W,h,e=>by
  have:=List.eq_nil_of_length_eq_zero e
  subst this
  exact h
 | y :: Y,[],X,Z,W,h,e=>by simp at e
 | y :: Y,v :: vs,X,Z,W,h,e=>by
  have h1:=heap_setCell_same _ _ X.length _ _ v h
  have h2:(X ++ y :: Y ++ Z).toArray.setIfInBounds X.length v=((X ++ [v]) ++ Y ++ Z).toArray:=by
   simp
  rw [h2] at h1
  have h3:=set_blk Y vs (X ++ [v]) Z _ h1 (by simpa using e)
  rw [List.length_append,List.length_singleton] at h3
  rw [show X ++ v :: vs ++ Z=X ++ [v] ++ vs ++ Z by simp]
  exact h3
theorem range_blk {W:World} {B:Nat} {X Y Z:List Value} {T:TypeId} (h:W.heap[B]?=some (.cells (X ++ Y ++ Z).toArray T)):W.rangeAt B X.length Y:=fun j v hj=>by
 rw [cell_of_row _ _ _ _ _ _ h]
 have:=(List.getElem?_eq_some_iff.1 hj).1
 rw [List.getElem?_toArray,List.append_assoc,List.getElem?_append_right (by omega),List.getElem?_append_left (by omega),Nat.add_sub_cancel_left]
 exact hj
theorem cell_blk {W:World} {B:Nat} {X Z:List Value} {v:Value} {T:TypeId} (h:W.heap[B]?=some (.cells (X ++ [v] ++ Z).toArray T)):W.cell? ⟨B,X.length,none⟩=some v:=range_blk h 0 v rfl
structure Fr (B:Nat) (v v':Value) (W W':World):Prop where
 os:W'.os=W.os
 tape:W'.tape=W.tape
 output:W'.output=W.output
 size:W.heap.size≤W'.heap.size
 same:∀ k,k<W.heap.size→k≠B→v.ownBlock≠some k→W'.heap[k]?=W.heap[k]?
 own:∀ g,v'.ownBlock=some g→v.ownBlock=some g∨W.heap.size≤g
theorem Fr.trans {B:Nat} {v v' v'':Value} {W W' W'':World} (h:Fr B v v' W W') (k:Fr B v' v'' W' W''):Fr B v v'' W W'' :=
 ⟨k.os.trans h.os,k.tape.trans h.tape,k.output.trans h.output,Nat.le_trans h.size k.size,fun i hi h1 h2=>(k.same i (Nat.lt_of_lt_of_le hi h.size) h1 fun e=>(h.own i e).elim (fun e=>h2 e) (fun e=>by omega)).trans (h.same i hi h1 h2),
  fun g hg=>(k.own g hg).elim (h.own g) (fun e=>Or.inr (Nat.le_trans h.size e))⟩
theorem Fr.of_below {B:Nat} {v:Value} {W W':World} (h:Below W.heap.size W W'):Fr B v v W W' :=
 ⟨h.os,h.tape,h.output,h.size,fun k hk _ _=>h.block k hk,fun _ hg=>Or.inl hg⟩
theorem Fr.refl (B:Nat) (v:Value) (W:World):Fr B v v W W:=Fr.of_below (Below.refl _ _)
theorem Fr.grown {B:Nat} {v v':Value} {W W':World} (hg:W.grownBy W' v.ownBlock) (ho:∀ g,v'.ownBlock=some g→v.ownBlock=some g∨W.heap.size≤g):Fr B v v' W W' :=
 ⟨hg.os,hg.tape,hg.output,hg.size,fun k hk _ h2=>hg.block k hk (fun e=>h2 e.symm),ho⟩
theorem Fr.cells {B:Nat} (v v':Value) (W:World) (ho:∀ g,v'.ownBlock=some g→v.ownBlock=some g∨W.heap.size≤g) (o:Nat) (vs:List Value):Fr B v v' W (W.setCells B o vs):=by
 have hb:=below_set3 (n:=0) (g:=B) (a:=W) (Nat.zero_le _) vs o W (Below.refl 0 W)
 exact ⟨hb.os,hb.tape,hb.output,hb.size,fun k _ h1 _=>set_other3 h1 vs o W,ho⟩
structure Wr (base:Nat) (T:TypeId) (W:World) (B:Nat) (X Z:List Value) (v:Value) (L:List Sf):Prop where
 row:W.heap[B]?=some (.cells (X ++ [v] ++ Z).toArray T)
 hk:HoldsK W base v L
 le:L.length≤40
 bs:base≤W.heap.size
 nT:T≠82
section
variable {base:Nat} {T:TypeId} {W W':World} {B:Nat} {X Z:List Value} {v:Value} {L:List Sf}
theorem Wr.ownB (h:Wr base T W B X Z v L) (g:Nat) (hg:v.ownBlock=some g):g≠B∧base≤g∧g<W.heap.size∧∃ cur,W.heap[g]?=some (.cells cur 82):=by
 rcases h.hk with ⟨rfl,_⟩ | ⟨g',o,cp,cur,rfl,h2,h3,_⟩
 ·cases hg
 ·cases hg
  refine ⟨fun (e:g'=B)=>?_,h3,(Array.getElem?_eq_some_iff.1 h2).1,cur,h2⟩
  rw [e,h.row] at h2
  injection h2 with h2
  injection h2 with _ h2
  exact h.nT h2
theorem Wr.lt (h:Wr base T W B X Z v L):B<W.heap.size:=(Array.getElem?_eq_some_iff.1 h.row).1
theorem Wr.below (h:Wr base T W B X Z v L) (hb:Below W.heap.size W W'):Wr base T W' B X Z v L :=
 ⟨(hb.block B h.lt).trans h.row,h.hk.keep fun g _ hg _ _=>hb.block g (h.ownB g hg).2.2.1,h.le,Nat.le_trans h.bs hb.size,h.nT⟩
theorem Wr.set (h:Wr base T W B X Z v L) {v':Value} {L':List Sf} (hk:HoldsK W base v' L') (le:L'.length≤40):Wr base T (W.setCell ⟨B,X.length,none⟩ v') B X Z v' L':=by
 have h1:=set_blk [v] [v'] X Z W h.row rfl
 refine ⟨h1,hk.keep fun g cur hg _ h2=>heap_setCell_other _ _ _ _ (fun e=>?_),le,Nat.le_trans h.bs (((Below.refl 0 W).setCell (p:=⟨B,X.length,none⟩) (Nat.zero_le _) _).size),h.nT⟩
 have e':g=B:=e
 rw [e',h.row] at h2
 injection h2 with h2
 injection h2 with _ h2
 exact h.nT h2
end
end Go.Proofs.YtkcghhkkepndnaaGreatDoor
namespace Go.Proofs.YtkcghhkkepndnaaGreatDoor
open Go.RowKit
def turnV (t:ByteArray) (n:Nat):ByteArray:=txt (t.data.toList.set (n % (8*t.size) / 8) (t.data.toList.getD (n % (8*t.size) / 8) 0 ^^^ UInt8.ofNat (2 ^ (n % (8*t.size) % 8))))
theorem turnV_size (t:ByteArray) (n:Nat):(turnV t n).size=t.size:=by
 unfold turnV
 rw [txt_size,List.length_set,Array.length_toList]
 rfl
end Go.Proofs.YtkcghhkkepndnaaGreatDoor
namespace Go.Proofs.YtkcghhkkepndnaaGreatDoor
open Go.RowKit
def nbcells (fs:List Nb):List Value:=fs.flatMap fun f=>[.int .i64 f.kind,.int .i64 f.ns,.int .i64 f.nr,.string f.text]
theorem nbcells_append (fs gs:List Nb):nbcells (fs ++ gs)=nbcells fs ++ nbcells gs:=by simp [nbcells]
theorem nbinfo:∃ i,Tryz.prog.info? 96=some i∧i.zero=some (.agg #[.int .i64 0,.int .i64 0,.int .i64 0,.string ⟨#[]⟩])∧i.size=4∧i.bytes=40:=by
 have h:(Tryz.prog.info? 96).map (fun i=>(i.zero,i.size,i.bytes))=some (some (.agg #[.int .i64 0,.int .i64 0,.int .i64 0,.string ⟨#[]⟩]),4,40):=by kernel_rfl
 obtain ⟨i,hi,hzz⟩:=Option.map_eq_some_iff.1 h
 simp only [Prod.mk.injEq] at hzz
 exact ⟨i,hi,hzz.1,hzz.2.1,hzz.2.2⟩
def HoldsN (w:World) (v:Value) (F:List Nb):Prop :=
 (∃ ad cp,v=.slice ad 0 cp∧F=[])∨∃ g cp cur,v=.slice (some ⟨g,0,none⟩) F.length cp∧w.heap[g]?=some (.cells cur 96)∧F.length*4≤cur.size∧∀ j,j<F.length*4→cur[j]?=(nbcells F)[j]?
theorem HoldsN.own {w:World} {base:Nat} {v:Value} {F:List Nb} (h:w.ownsRow base 96 4 v F.length (nbcells F)):HoldsN w v F:=by
 rcases h.2 with ⟨h1,h2⟩ | ⟨g,cap,cur,h1,_,h3,h4,_,h6,h7⟩
 ·exact Or.inl ⟨_,_,h1,List.eq_nil_of_length_eq_zero h2⟩
 ·refine Or.inr ⟨g,cap,cur,h1,h3,by rw [h6];omega,fun j hj=>?_⟩
  rw [← h7,List.getElem?_take,if_pos hj,Array.getElem?_toList]
theorem HoldsN.below {n:Nat} {w w':World} {v:Value} {F:List Nb} (h:HoldsN w v F) (hb:Below n w w') (hn:n=w.heap.size):HoldsN w' v F:=by
 subst hn
 exact h.imp id fun ⟨g,cp,cur,h1,h2,h3⟩=>⟨g,cp,cur,h1,(hb.block g (Array.getElem?_eq_some_iff.1 h2).1).trans h2,h3⟩
theorem HoldsN.form {w:World} {v:Value} {F:List Nb} (h:HoldsN w v F):∃ ad cp,v=.slice ad F.length cp:=by
 rcases h with ⟨ad,cp,h1,h2⟩ | ⟨g,cp,cur,h1,_⟩
 ·exact ⟨ad,cp,by rw [h1,h2];rfl⟩
 ·exact ⟨_,_,h1⟩
theorem holdsN_nil (w:World) (ad:Option Addr) (cp:Nat):HoldsN w (.slice ad 0 cp) []:=Or.inl ⟨ad,cp,rfl,rfl⟩
end Go.Proofs.YtkcghhkkepndnaaGreatDoor
namespace Go.Proofs.YtkcghhkkepndnaaGreatDoor
open Go.RowKit
def jumps (J:Nat→Act→World→Prop) (Q:Exit→Act→World→Prop):Exit→Act→World→Prop
 | .goto l,a,w=>J l a w
 | e,a,w=>Q e a w
section
variable {Q:Exit→Act→World→Prop} {J:Nat→Act→World→Prop} {a:Act} {w:World}
theorem jumps_ret:jumps J Q .ret a w=Q .ret a w:=rfl
theorem jumps_goto (l:Nat):jumps J Q (.goto l) a w=J l a w:=rfl
end
theorem wp_jumps {P:Program} {a:Act} {w:World} {Q:Exit→Act→World→Prop} {c:Code} (J:Nat→Act→World→Prop) (μ:Act→World→Nat)
  (pass:∀ l a w,J l a w→∃ rest,findLabel c l=some rest∧rest.wp P (jumps (fun l' a' w'=>J l' a' w'∧μ a' w' < μ a w) Q) a w)
  (first:c.wp P (jumps J Q) a w):(Code.scope c).wp P Q a w:=by
 intro b k cs
 have key:∀ n l a w,μ a w=n→J l a w→∃ rest,findLabel c l=some rest∧∃ e a' w',Q e a' w'∧Arrives P (lone (b.at a (.code rest :: .inScope c :: k)) cs w) b k cs e a' w':=by
  intro n
  induction n using Nat.strongRecOn with
  | _ n ih =>
   intro l a w hn hJ
   obtain ⟨rest,hf,hp⟩:=pass l a w hJ
   refine ⟨rest,hf,?_⟩
   obtain ⟨e,a₁,w₁,hq,harr⟩:=hp b (.inScope c :: k) cs
   cases e with
   | normal=>exact ⟨.normal,a₁,w₁,hq,Steps.trans harr (.one step_inScope)⟩
   | exit id=>exact ⟨.exit id,a₁,w₁,hq,fun k' hk=>harr k' (by simp [exitTo,hk])⟩
   | goto l' =>
    obtain ⟨hJ',hlt⟩:=hq
    obtain ⟨rest',hf',e₂,a₂,w₂,hq₂,harr₂⟩:=ih _ (by omega) l' a₁ w₁ rfl hJ'
    have hg:gotoIn l' (.inScope c :: k)=some (.code rest' :: .inScope c :: k):=by simp [gotoIn,hf']
    exact ⟨e₂,a₂,w₂,hq₂,.of_steps (harr _ hg) harr₂⟩
   | ret=>exact ⟨_,a₁,w₁,hq,harr⟩
   | panic ch=>exact ⟨_,a₁,w₁,hq,harr⟩
   | outgrown=>exact ⟨_,a₁,w₁,hq,harr⟩
 obtain ⟨e,a₁,w₁,hq,harr⟩:=first b (.inScope c :: k) cs
 cases e with
 | normal=>exact ⟨.normal,a₁,w₁,hq,.head step_scope (Steps.trans harr (.one step_inScope))⟩
 | exit id=>exact ⟨.exit id,a₁,w₁,hq,fun k' hk=>.head step_scope (harr k' (by simp [exitTo,hk]))⟩
 | goto l' =>
  obtain ⟨rest',hf',e₂,a₂,w₂,hq₂,harr₂⟩:=key _ l' a₁ w₁ rfl hq
  have hg:gotoIn l' (.inScope c :: k)=some (.code rest' :: .inScope c :: k):=by simp [gotoIn,hf']
  exact ⟨e₂,a₂,w₂,hq₂,.of_steps (.head step_scope (harr _ hg)) harr₂⟩
 | ret=>exact ⟨_,a₁,w₁,hq,.of_steps (.one step_scope) harr⟩
 | panic ch=>exact ⟨_,a₁,w₁,hq,.of_steps (.one step_scope) harr⟩
 | outgrown=>exact ⟨_,a₁,w₁,hq,.of_steps (.one step_scope) harr⟩
end Go.Proofs.YtkcghhkkepndnaaGreatDoor
namespace Go.Proofs.YtkcghhkkepndnaaGreatDoor
open Go.RowKit
theorem xor20 (c:UInt8):bits .xor .u8 (c.toNat:Int) 32=((c ^^^ 0x20).toNat:Int):=by
 have:=u8_xor_nat c.toNat 32 c.toNat_lt (by decide)
 rw [UInt8.toNat_xor]
 exact this
theorem odd_ways (a:Nat) (c:UInt8) (P:Prop)
  (h1:((c.toNat:Int) == 126)=true→Hd.stuff1 a c=[0x7d,c ^^^ 0x20]→P)
  (h2:((c.toNat:Int) == 126)=false→((c.toNat:Int) == 125)=true→Hd.stuff1 a c=[0x7d,c ^^^ 0x20]→P)
  (h3:((c.toNat:Int) == 126)=false→((c.toNat:Int) == 125)=false→Hd.mapped a c=true→Hd.stuff1 a c=[0x7d,c ^^^ 0x20]→P)
  (h4:((c.toNat:Int) == 126)=false→((c.toNat:Int) == 125)=false→Hd.mapped a c=false→Hd.stuff1 a c=[c]→P):P:=by
 by_cases e1:c=0x7e
 ·subst e1
  exact h1 rfl (by simp [Hd.stuff1,Hd.odd])
 ·have d1:((c.toNat:Int) == 126)=false:=u8_ne e1
  by_cases e2:c=0x7d
  ·subst e2
   exact h2 rfl rfl (by simp [Hd.stuff1,Hd.odd])
  ·have d2:((c.toNat:Int) == 125)=false:=u8_ne e2
   cases hm:Hd.mapped a c
   ·exact h4 d1 d2 hm (by simp [Hd.stuff1,Hd.odd,e1,e2,hm])
   ·exact h3 d1 d2 hm (by simp [Hd.stuff1,Hd.odd,hm])

set_option maxHeartbeats 1000000 in
theorem specStuff (t:ByteArray) (a:Nat) (w:World) (ha:a<4294967296) (ht:t.size≤100000) :
  Calls Tryz.prog 100 #[.string t,.int .i64 a] w fun e w'=>e=.returned (.string (txt (Hd.stuff a t.data.toList)))∧Below w.heap.size w w':=by
 go_enter Tryz.func100,Tryz.ntmps100
 go_wp2_with fail
 go_loopw [5,6] (fun v i wr=>∃ (k:Nat),k≤t.size∧i=.int .i64 k∧wr.ownsRow w.heap.size 5 1 v (Hd.stuff a (t.data.toList.take k)).length (vals (Hd.stuff a (t.data.toList.take k)))∧Below w.heap.size w wr) (fun _ i _=>t.size - (intOf i).toNat)
 case atStart=>exact ⟨0,Nat.zero_le _,rfl,World.ownsRow_lit w #[] 0 (by omega) (Nat.zero_le _) rfl,(Below.refl _ _).alloc (Nat.le_refl _) _⟩
 case round =>
  obtain ⟨k,hk,rfl,hown,hb1⟩:=hrel
  by_cases hlt:k<t.size
  ·have hn:=Hd.stuff_len a (t.data.toList.take k)
   rw [List.length_take] at hn
   have HS:Hid (Hd.stuff a (t.data.toList.take (k+1))=Hd.stuff a (t.data.toList.take k) ++ Hd.stuff1 a t[k]):=by
    refine hide ?_
    rw [take_snoc t k hlt,Hd.stuff_snoc]
   have hn2:(Hd.stuff a (t.data.toList.take k)).length≤200000:=by omega
   generalize Hd.stuff a (t.data.toList.take k)=L at *
   have C:=hide (fun w=>specMapped a t[k] w ha)
   have hxo:=xor20 t[k]
   have hsz:=hb1.size
   have HO:=hide hown
   clear hown hn
   refine odd_ways a t[k] _ (fun d1 hs=>?_) (fun d1 d2 hs=>?_) (fun d1 d2 d3 hs=>?_) (fun d1 d2 d3 hs=>?_)
   case' refine_1=>have HT:Hid (Hd.stuff a (t.data.toList.take (k+1))=L ++ [0x7d,t[k] ^^^ 0x20]):=hide (by rw [uh HS,hs])
   case' refine_2=>have HT:Hid (Hd.stuff a (t.data.toList.take (k+1))=L ++ [0x7d,t[k] ^^^ 0x20]):=hide (by rw [uh HS,hs])
   case' refine_3=>have HT:Hid (Hd.stuff a (t.data.toList.take (k+1))=L ++ [0x7d,t[k] ^^^ 0x20]):=hide (by rw [uh HS,hs])
   case' refine_4=>have HT:Hid (Hd.stuff a (t.data.toList.take (k+1))=L ++ [t[k]]):=hide (by rw [uh HS,hs])
   all_goals clear hs HS
   case' refine_3=>rw [d3] at C
   case' refine_4=>rw [d3] at C
   all_goals
    try generalize (t[k] ^^^ 0x20)=c' at *
    go_wp2_with (first
     | (go_at_call 104;refine (uh C _).mono ?_;rintro e w1 ⟨rfl,rfl⟩)
     | (at_builtin;refine append_bytes rfl _ _ rfl w.heap.size u5 L [0x7d,c'] rfl (uh HO) 2 rfl rfl rfl (by simp;omega) hsz ?_;rintro v' w2 ho2 hb2;have HO2:=hide ho2;clear ho2)
     | (at_builtin;refine append_bytes rfl _ _ rfl w.heap.size u5 L [t[k]] rfl (uh HO) 1 rfl rfl rfl (by simp;omega) hsz ?_;rintro v' w2 ho2 hb2;have HO2:=hide ho2;clear ho2))
    go_roundw
    case rel =>
     refine ⟨k+1,by omega,by go_num,?_,hb1.trans hb2⟩
     rw [uh HT]
     exact uh HO2
    case measure=>simp [intOf];omega
  ·have hlt':¬ ((k:Int)<(t.size:Int)):=by omega
   have hcv:=own_conv hown
   rw [List.take_of_length_le (by simp;omega)] at hcv
   go_wp2
   go_ret
   exact ⟨rfl,hb1⟩

set_option maxHeartbeats 1000000 in
theorem implStuff (t:ByteArray) (a:Nat) (w:World) (ha:a<4294967296) (ht:t.size≤8000) :
  Calls Tryz.prog 112 #[.string t,.int .i64 a] w fun e w'=>e=.returned (.string (txt (Hd.stuff a t.data.toList)))∧Below w.heap.size w w':=by
 have d0:¬ ((8000:Int)<(t.size:Int)):=by omega
 have c1:=accmRight a w
 rw [accOk_nat ha] at c1
 go_enter Tryz.func112,Tryz.ntmps112
 go_wp2_with (first
  | (go_at_call 111;refine c1.mono ?_;rintro e w1 ⟨rfl,hw⟩;replace hw:=hw.symm;subst hw)
  | (go_at_call 117;refine (mappedBy a _).mono ?_;rintro e w1 ⟨rfl,rfl⟩)
  | (at_make;refine mk_bytes rfl _ _ rfl (w.heap.size+1) _ (2*t.size) rfl rfl (by go_num) (by omega) (by simp) ?_;rintro v0 w2 ho2 hb2;have HO2:=hide ho2;have HB2:=hide hb2;clear ho2 hb2))
 go_loopw [6,7] (fun v i wr=>∃ (k:Nat),k≤t.size∧i=.int .i64 k∧wr.ownsRow (w.heap.size+1) 5 1 v (Hd.stuff a (t.data.toList.take k)).length (vals (Hd.stuff a (t.data.toList.take k)))∧Below (w.heap.size+1) (w.alloc (.cells #[.int .i64 a] 2)) wr) (fun _ i _=>t.size - (intOf i).toNat)
 case atStart=>exact ⟨0,Nat.zero_le _,rfl,uh HO2,uh HB2⟩
 case round =>
  obtain ⟨k,hk,rfl,hown,hb1⟩:=hrel
  have hcell:wr.cell? ⟨w.heap.size,0,none⟩=some (.int .i64 a):=by
   rw [hb1.cell (p:=⟨w.heap.size,0,none⟩) (Nat.lt_succ_self _),World.cell?_alloc_at _ _ _ _ rfl]
   rfl
  by_cases hlt:k<t.size
  ·have hn:=Hd.stuff_len a (t.data.toList.take k)
   rw [List.length_take] at hn
   have HS:Hid (Hd.stuff a (t.data.toList.take (k+1))=Hd.stuff a (t.data.toList.take k) ++ Hd.stuff1 a t[k]):=by
    refine hide ?_
    rw [take_snoc t k hlt,Hd.stuff_snoc]
   have hn2:(Hd.stuff a (t.data.toList.take k)).length≤200000:=by omega
   generalize Hd.stuff a (t.data.toList.take k)=L at *
   have C:=hide (implMapped a t[k] w.heap.size wr ha hcell)
   have hxo:=xor20 t[k]
   have hsz:w.heap.size+1≤wr.heap.size:=by simpa using hb1.size
   have HO:=hide hown
   clear hown hn hcell HO2 HB2
   refine odd_ways a t[k] _ (fun d1 hs=>?_) (fun d1 d2 hs=>?_) (fun d1 d2 d3 hs=>?_) (fun d1 d2 d3 hs=>?_)
   case' refine_1=>have HT:Hid (Hd.stuff a (t.data.toList.take (k+1))=L ++ [0x7d,t[k] ^^^ 0x20]):=hide (by rw [uh HS,hs])
   case' refine_2=>have HT:Hid (Hd.stuff a (t.data.toList.take (k+1))=L ++ [0x7d,t[k] ^^^ 0x20]):=hide (by rw [uh HS,hs])
   case' refine_3=>have HT:Hid (Hd.stuff a (t.data.toList.take (k+1))=L ++ [0x7d,t[k] ^^^ 0x20]):=hide (by rw [uh HS,hs])
   case' refine_4=>have HT:Hid (Hd.stuff a (t.data.toList.take (k+1))=L ++ [t[k]]):=hide (by rw [uh HS,hs])
   all_goals clear hs HS
   case' refine_3=>rw [d3] at C
   case' refine_4=>rw [d3] at C
   all_goals
    try generalize (t[k] ^^^ 0x20)=c' at *
    go_wp2_with (first
     | (go_at_call 134;refine (uh C).mono ?_;rintro e w1 ⟨rfl,rfl⟩)
     | (at_builtin;refine append_bytes rfl _ _ rfl (w.heap.size+1) u6 L [0x7d,c'] rfl (uh HO) 2 rfl rfl rfl (by simp;omega) hsz ?_;rintro v' w2 ho2 hb2;have HO2:=hide ho2;clear ho2)
     | (at_builtin;refine append_bytes rfl _ _ rfl (w.heap.size+1) u6 L [t[k]] rfl (uh HO) 1 rfl rfl rfl (by simp;omega) hsz ?_;rintro v' w2 ho2 hb2;have HO2:=hide ho2;clear ho2))
    go_roundw
    case rel =>
     refine ⟨k+1,by omega,by go_num,?_,hb1.trans hb2⟩
     rw [uh HT]
     exact uh HO2
    case measure=>simp [intOf];omega
  ·have hlt':¬ ((k:Int)<(t.size:Int)):=by omega
   have hcv:=own_conv hown
   rw [List.take_of_length_le (by simp;omega)] at hcv
   go_wp2
   go_ret
   exact ⟨rfl,((Below.refl _ _).alloc (Nat.le_refl _) _).trans (hb1.mono (Nat.le_succ _))⟩
end Go.Proofs.YtkcghhkkepndnaaGreatDoor
namespace Go.Proofs.YtkcghhkkepndnaaGreatDoor
open Go.RowKit
structure Near (B:Nat) (w w':World):Prop where
 os:w'.os=w.os
 tape:w'.tape=w.tape
 output:w'.output=w.output
 size:w.heap.size≤w'.heap.size
 block:∀ k,k<w.heap.size→k≠B→w'.heap[k]?=w.heap[k]?
theorem Near.refl (B:Nat) (w:World):Near B w w:=⟨rfl,rfl,rfl,Nat.le_refl _,fun _ _ _=>rfl⟩
theorem Near.trans {B:Nat} {a b c:World} (h:Near B a b) (k:Near B b c):Near B a c :=
 ⟨k.os.trans h.os,k.tape.trans h.tape,k.output.trans h.output,Nat.le_trans h.size k.size,fun i hi hn=>(k.block i (Nat.lt_of_lt_of_le hi h.size) hn).trans (h.block i hi hn)⟩
theorem Near.drew {B:Nat} {a w:World} (h:Near B a w):Near B a w.drew:=⟨h.os,h.tape,h.output,h.size,h.block⟩
theorem Near.setCell {B:Nat} {a w:World} (h:Near B a w) (o:Nat) (v:Value):Near B a (w.setCell ⟨B,o,none⟩ v):=by
 have hb:=(Below.refl 0 w).setCell (p:=⟨B,o,none⟩) (Nat.zero_le _) v
 exact ⟨hb.os.trans h.os,hb.tape.trans h.tape,hb.output.trans h.output,Nat.le_trans h.size hb.size,fun k hk hn=>(Below.heap_setCell w ⟨B,o,none⟩ v k hn).trans (h.block k hk hn)⟩
theorem Near.of_below {B:Nat} {a w w':World} (h:Near B a w) (hb:Below w.heap.size w w'):Near B a w' :=
 h.trans ⟨hb.os,hb.tape,hb.output,hb.size,fun k hk _=>hb.block k hk⟩
theorem Near.alloc {B:Nat} {a w:World} (h:Near B a w) (o:Obj):Near B a (w.alloc o):=h.of_below ((Below.refl _ _).alloc (Nat.le_refl _) _)
theorem Near.below {B n:Nat} {w w':World} (h:Near B w w') (hn:n≤B) (hw:n≤w.heap.size):Below n w w' :=
 ⟨h.os,h.tape,h.output,h.size,fun k hk=>h.block k (by omega) (by omega)⟩

structure Dc (cs:Array Value) (g:Nat) (wide long:Bool) (held:List UInt8) (fs:List Hd.Fd):Prop where
 size:cs.size=1109
 c0:cs[0]?=some (.bool wide)
 c1:cs[1]?=some (.bool long)
 c2:cs[2]?=some (.func (.func 134) #[] #[.pointer (some ⟨g,0,none⟩)])
 cz:cs[307]?=some (.int .i64 held.length)
 cn:cs[1108]?=some (.int .i64 fs.length)
 hl:held.length≤304
 fl:fs.length≤400
 hv:∀ i c,held[i]?=some c→cs[3+i]?=some (.int .u8 c.toNat)
 fk:∀ i f,fs[i]?=some f→cs[308+i*2]?=some (.int .i64 f.kind)
 ft:∀ i f,fs[i]?=some f→cs[308+i*2+1]?=some (.string (txt f.text))
theorem set_ne {cs:Array Value} {i j:Nat} {v:Value} (h:i≠j):(cs.setIfInBounds i v)[j]?=cs[j]?:=Array.getElem?_setIfInBounds_ne h
theorem set_eq {cs:Array Value} {i:Nat} {v:Value} (h:i<cs.size):(cs.setIfInBounds i v)[i]?=some v:=by
 rw [Array.getElem?_setIfInBounds_self,if_pos h]
theorem set_size {cs:Array Value} {i:Nat} {v:Value}:(cs.setIfInBounds i v).size=cs.size:=Array.size_setIfInBounds ..
theorem get_lt {α:Type} {l:List α} {i:Nat} {x:α} (h:l[i]?=some x):i<l.length:=(List.getElem?_eq_some_iff.1 h).1
theorem Dc.setLong {cs:Array Value} {g:Nat} {wide long:Bool} {held:List UInt8} {fs:List Hd.Fd} (h:Dc cs g wide long held fs) (b:Bool):Dc (cs.setIfInBounds 1 (.bool b)) g wide b held fs where
 size:=by rw [set_size,h.size]
 c0:=by rw [set_ne (by decide)];exact h.c0
 c1:=set_eq (by rw [h.size];decide)
 c2:=by rw [set_ne (by decide)];exact h.c2
 cz:=by rw [set_ne (by decide)];exact h.cz
 cn:=by rw [set_ne (by decide)];exact h.cn
 hl:=h.hl
 fl:=h.fl
 hv:=fun i c hc=>by rw [set_ne (by omega)];exact h.hv i c hc
 fk:=fun i f hf=>by rw [set_ne (by omega)];exact h.fk i f hf
 ft:=fun i f hf=>by rw [set_ne (by omega)];exact h.ft i f hf
theorem Dc.clear {cs:Array Value} {g:Nat} {wide long:Bool} {held:List UInt8} {fs:List Hd.Fd} (h:Dc cs g wide long held fs):Dc (cs.setIfInBounds 307 (.int .i64 0)) g wide long [] fs where
 size:=by rw [set_size,h.size]
 c0:=by rw [set_ne (by decide)];exact h.c0
 c1:=by rw [set_ne (by decide)];exact h.c1
 c2:=by rw [set_ne (by decide)];exact h.c2
 cz:=set_eq (by rw [h.size];decide)
 cn:=by rw [set_ne (by decide)];exact h.cn
 hl:=by simp
 fl:=h.fl
 hv:=fun i c hc=>by simp at hc
 fk:=fun i f hf=>by have:=get_lt hf;rw [set_ne (by omega)];exact h.fk i f hf
 ft:=fun i f hf=>by have:=get_lt hf;rw [set_ne (by omega)];exact h.ft i f hf
theorem Dc.put {cs:Array Value} {g:Nat} {wide long:Bool} {held:List UInt8} {fs:List Hd.Fd} (h:Dc cs g wide long held fs) (c:UInt8) (hlt:held.length<304) (s:Int) (hs:s=((held.length+1:Nat):Int)) :
  Dc ((cs.setIfInBounds (3+held.length) (.int .u8 c.toNat)).setIfInBounds 307 (.int .i64 s)) g wide long (held ++ [c]) fs where
 size:=by rw [set_size,set_size,h.size]
 c0:=by rw [set_ne (by decide),set_ne (by omega)];exact h.c0
 c1:=by rw [set_ne (by decide),set_ne (by omega)];exact h.c1
 c2:=by rw [set_ne (by decide),set_ne (by omega)];exact h.c2
 cz:=by rw [set_eq (by rw [set_size,h.size];decide),hs];simp
 cn:=by rw [set_ne (by decide),set_ne (by omega)];exact h.cn
 hl:=by simp;omega
 fl:=h.fl
 hv:=fun i d hd=>by
  rw [set_ne (by have:=get_lt hd;simp at this;omega)]
  by_cases e:i=held.length
  ·subst e
   rw [set_eq (by rw [h.size];omega)]
   simp at hd
   rw [hd]
  ·have hi:=get_lt hd
   simp at hi
   rw [set_ne (by omega)]
   rw [List.getElem?_append_left (by omega)] at hd
   exact h.hv i d hd
 fk:=fun i f hf=>by have:=get_lt hf;rw [set_ne (by omega),set_ne (by omega)];exact h.fk i f hf
 ft:=fun i f hf=>by have:=get_lt hf;rw [set_ne (by omega),set_ne (by omega)];exact h.ft i f hf
theorem Dc.found {cs:Array Value} {g:Nat} {wide long:Bool} {held:List UInt8} {fs:List Hd.Fd} (h:Dc cs g wide long held fs) (f:Hd.Fd) (hlt:fs.length<400) (s:Int) (hs:s=((fs.length+1:Nat):Int)) :
  Dc (((cs.setIfInBounds (308+fs.length*2) (.int .i64 f.kind)).setIfInBounds (308+fs.length*2+1) (.string (txt f.text))).setIfInBounds 1108 (.int .i64 s)) g wide long held (fs ++ [f]) where
 size:=by rw [set_size,set_size,set_size,h.size]
 c0:=by rw [set_ne (by decide),set_ne (by omega),set_ne (by omega)];exact h.c0
 c1:=by rw [set_ne (by decide),set_ne (by omega),set_ne (by omega)];exact h.c1
 c2:=by rw [set_ne (by decide),set_ne (by omega),set_ne (by omega)];exact h.c2
 cz:=by rw [set_ne (by decide),set_ne (by omega),set_ne (by omega)];exact h.cz
 cn:=by rw [set_eq (by rw [set_size,set_size,h.size];decide),hs];simp
 hl:=h.hl
 fl:=by simp;omega
 hv:=fun i d hd=>by have:=get_lt hd;have:=h.hl;rw [set_ne (by omega),set_ne (by omega),set_ne (by omega)];exact h.hv i d hd
 fk:=fun i d hd=>by
  have hi:=get_lt hd
  simp at hi
  rw [set_ne (by omega)]
  by_cases e:i=fs.length
  ·subst e
   rw [set_ne (by omega),set_eq (by rw [h.size];omega)]
   simp at hd
   rw [hd]
  ·rw [set_ne (by omega),set_ne (by omega)]
   rw [List.getElem?_append_left (by omega)] at hd
   exact h.fk i d hd
 ft:=fun i d hd=>by
  have hi:=get_lt hd
  simp at hi
  rw [set_ne (by omega)]
  by_cases e:i=fs.length
  ·subst e
   rw [set_eq (by rw [set_size,h.size];omega)]
   simp at hd
   rw [hd]
  ·rw [set_ne (by omega),set_ne (by omega)]
   rw [List.getElem?_append_left (by omega)] at hd
   exact h.ft i d hd
def Dw (w:World) (B g:Nat) (wide long:Bool) (held:List UInt8) (fs:List Hd.Fd):Prop:=∃ cs,w.heap[B]?=some (.cells cs 154)∧Dc cs g wide long held fs
theorem Dw.same {w w':World} {B g:Nat} {wide long:Bool} {held:List UInt8} {fs:List Hd.Fd} (h:Dw w B g wide long held fs) (hb:w'.heap[B]?=w.heap[B]?):Dw w' B g wide long held fs:=by
 obtain ⟨cs,h1,h2⟩:=h
 exact ⟨cs,hb.trans h1,h2⟩
theorem Dw.lt {w:World} {B g:Nat} {wide long:Bool} {held:List UInt8} {fs:List Hd.Fd} (h:Dw w B g wide long held fs):B<w.heap.size:=by
 obtain ⟨cs,h1,h2⟩:=h
 exact (Array.getElem?_eq_some_iff.1 h1).1

set_option maxHeartbeats 1000000 in
theorem putW (w:World) (B g:Nat) (wide long:Bool) (held:List UInt8) (fs:List Hd.Fd) (c:UInt8) (h:Dw w B g wide long held fs) :
  Calls Tryz.prog 136 #[.pointer (some ⟨B,0,none⟩),.int .u8 c.toNat] w fun e w'=>e=.returned (.tuple #[]) ∧
   Dw w' B g wide (if held.length=304 then true else long) (if held.length=304 then held else held ++ [c]) fs∧Near B w w':=by
 obtain ⟨cs,hB,hd⟩:=h
 have e1:w.cell? ⟨B,307,none⟩=some (.int .i64 held.length):=by rw [cell_of_row _ _ _ _ _ _ hB];exact hd.cz
 have e2:w.cell? ⟨B,1,none⟩=some (.bool long):=by rw [cell_of_row _ _ _ _ _ _ hB];exact hd.c1
 have f1:=frz hB 307
 have f2:=frz hB 1
 have hl:=hd.hl
 have HB:=hide hB
 have HD:=hide hd
 by_cases hf:held.length=304
 ·rw [if_pos hf,if_pos hf]
  have d1:((held.length:Int) == 304)=true:=beq_iff_eq.2 (by omega)
  clear hB hd
  go_enter Tryz.func136,Tryz.ntmps136
  go_wp2
  refine bodyPost_ret (v:=.tuple #[]) (by simp [results,Tryz.results136,go_sem]) rfl ⟨rfl,⟨_,heap_setCell_same w B 1 _ _ _ (uh HB),(uh HD).setLong true⟩,(Near.refl _ _).setCell 1 _⟩
 ·rw [if_neg hf,if_neg hf]
  have d1:((held.length:Int) == 304)=false:=beq_eq_false_iff_ne.2 (by omega)
  have hlt:held.length<304:=by omega
  have f3:=frz hB (3+held.length)
  obtain ⟨v3,e3⟩:∃ v,w.cell? ⟨B,3+held.length,none⟩=some v:=by
   rw [cell_of_row _ _ _ _ _ _ hB]
   exact ⟨_,Array.getElem?_eq_getElem (by rw [hd.size];omega)⟩
  clear hB hd
  go_enter Tryz.func136,Tryz.ntmps136
  go_wp2_with fail
  have n1:¬ (307=3+held.length):=by omega
  have n2:¬ (3+held.length=307):=by omega
  have n3:¬ (304=held.length):=by omega
  go_region
  go_wp2
  have e7:((held.length:Int)+1)=((held.length+1:Nat):Int):=by omega
  refine bodyPost_end (v:=.tuple #[]) (by simp [results,Tryz.results136,go_sem]) rfl ⟨rfl,⟨_,heap_setCell_same _ B 307 _ _ _ (heap_setCell_same w B (3+held.length) _ _ _ (uh HB)),(uh HD).put c hlt _ e7⟩,(((Near.refl _ _).setCell (3+held.length) _).drew).setCell 307 _⟩
set_option maxHeartbeats 1000000 in
theorem tellW (w:World) (B g:Nat) (wide long:Bool) (held:List UInt8) (fs:List Hd.Fd) (f:Hd.Fd) (h:Dw w B g wide long held fs) :
  Calls Tryz.prog 137 #[.pointer (some ⟨B,0,none⟩),.agg #[.int .i64 f.kind,.string (txt f.text)]] w fun e w'=>e=.returned (.tuple #[]) ∧
   Dw w' B g wide false [] (if fs.length<400 then fs ++ [f] else fs)∧Near B w w':=by
 have hBw:=h.lt
 obtain ⟨cs,hB,hd⟩:=h
 have e0:w.cell? ⟨B,307,none⟩=some (.int .i64 held.length):=by rw [cell_of_row _ _ _ _ _ _ hB];exact hd.cz
 have e1:w.cell? ⟨B,1,none⟩=some (.bool long):=by rw [cell_of_row _ _ _ _ _ _ hB];exact hd.c1
 have e2:w.cell? ⟨B,1108,none⟩=some (.int .i64 fs.length):=by rw [cell_of_row _ _ _ _ _ _ hB];exact hd.cn
 have f0:=frz hB 307
 have f1:=frz hB 1
 have f2:=frz hB 1108
 have hl:=hd.fl
 have hne:¬ (B=w.heap.size):=by omega
 have HB:=hide hB
 have HD:=hide hd
 by_cases hf:fs.length<400
 ·rw [if_pos hf]
  have d1:(fs.length:Int)<400:=by omega
  have f3:=frz hB (308+fs.length*2)
  have f4:=frz hB (308+fs.length*2+1)
  obtain ⟨v3,e3⟩:∃ v,w.cell? ⟨B,308+fs.length*2,none⟩=some v:=by
   rw [cell_of_row _ _ _ _ _ _ hB]
   exact ⟨_,Array.getElem?_eq_getElem (by rw [hd.size];omega)⟩
  obtain ⟨v4,e4⟩:∃ v,w.cell? ⟨B,308+fs.length*2+1,none⟩=some v:=by
   rw [cell_of_row _ _ _ _ _ _ hB]
   exact ⟨_,Array.getElem?_eq_getElem (by rw [hd.size];omega)⟩
  clear hB hd
  have HF:Hid (∀ s:Int,s=((fs.length+1:Nat):Int)→Dc ((((((cs.setIfInBounds 1 (.bool false)).setIfInBounds 307 (.int .i64 0)).setIfInBounds (308+fs.length*2) (.int .i64 f.kind)).setIfInBounds (308+fs.length*2+1) (.string (txt f.text))).setIfInBounds 1108 (.int .i64 s))) g wide false [] (fs ++ [f])) :=
   hide fun s hs=>(((uh HD).setLong false).clear).found f hf s hs
  generalize f.kind=K at *
  generalize txt f.text=T at *
  have n1:¬ (1108=308+fs.length*2):=by omega
  have n2:¬ (1108=308+fs.length*2+1):=by omega
  have n3:¬ (308+fs.length*2=1108):=by omega
  have n4:¬ (308+fs.length*2+1=1108):=by omega
  have n5:¬ (800=fs.length*2):=by omega
  have n6:¬ (799=fs.length*2):=by omega
  have n7:¬ (307=308+fs.length*2):=by omega
  have n8:¬ (1=308+fs.length*2):=by omega
  go_enter Tryz.func137,Tryz.ntmps137
  go_wp2_with fail
  go_region
  go_wp2
  have e7:((fs.length:Int)+1)=((fs.length+1:Nat):Int):=by omega
  refine bodyPost_end (v:=.tuple #[]) (by simp [results,Tryz.results137,go_sem]) rfl ⟨rfl,⟨_,?_,uh HF _ e7⟩,?_⟩
  ·refine (Below.heap_alloc _ _ _ ?_).trans ?_
   ·simpa [World.setCell] using hBw
   ·exact heap_setCell_same _ B 1108 _ _ _ (heap_setCell_same _ B _ _ _ _ (heap_setCell_same _ B _ _ _ _ (heap_setCell_same _ B _ _ _ _ (heap_setCell_same w B 1 _ _ _ (uh HB)))))
  ·exact (((((((Near.refl _ _).setCell 1 _).setCell 307 _).setCell _ _).setCell _ _).setCell 1108 _).alloc _).drew
 ·rw [if_neg hf]
  have d1:¬ ((fs.length:Int)<400):=by omega
  clear hB hd
  go_enter Tryz.func137,Tryz.ntmps137
  go_wp2
  refine bodyPost_end (v:=.tuple #[]) (by simp [results,Tryz.results137,go_sem]) rfl ⟨rfl,⟨_,?_,((uh HD).setLong false).clear⟩,(((Near.refl _ _).setCell 1 _).setCell 307 _).alloc _⟩
  refine (Below.heap_alloc _ _ _ ?_).trans (heap_setCell_same _ B 307 _ _ _ (heap_setCell_same w B 1 _ _ _ (uh HB)))
  simpa [World.setCell] using hBw
end Go.Proofs.YtkcghhkkepndnaaGreatDoor
namespace Go.Proofs.YtkcghhkkepndnaaGreatDoor
open Go.RowKit
def fcells (fs:List Hd.Fd):List Value:=fs.flatMap fun f=>[.int .i64 f.kind,.string (txt f.text)]
theorem fcells_len (fs:List Hd.Fd):(fcells fs).length=fs.length*2:=by
 induction fs with
 | nil=>rfl
 | cons f fs ih=>simp [fcells] at ih ⊢;omega
theorem fcells_append (fs gs:List Hd.Fd):fcells (fs ++ gs)=fcells fs ++ fcells gs:=by simp [fcells]
theorem fcells_one (fs:List Hd.Fd):∀ v ∈ fcells fs,v.oneCell'=true:=by
 intro v hv
 simp only [fcells,List.mem_flatMap,List.mem_cons,List.not_mem_nil,or_false] at hv
 obtain ⟨f,_,h | h⟩:=hv<;>subst h<;>rfl
theorem fcells_get (fs:List Hd.Fd) (i:Nat) (f:Hd.Fd) (h:fs[i]?=some f):(fcells fs)[i*2]?=some (.int .i64 f.kind)∧(fcells fs)[i*2+1]?=some (.string (txt f.text)):=by
 induction fs generalizing i with
 | nil=>simp at h
 | cons d fs ih =>
  cases i with
  | zero =>
   simp at h
   subst h
   exact ⟨rfl,rfl⟩
  | succ i =>
   have:=ih i (by simpa using h)
   have e:fcells (d :: fs)=.int .i64 d.kind :: .string (txt d.text) :: fcells fs:=rfl
   rw [e,show (i+1)*2=i*2+2 by omega]
   exact this
theorem fcells_cell (fs:List Hd.Fd) (j:Nat) (v:Value) (h:(fcells fs)[j]?=some v):∃ i f,fs[i]?=some f∧((j=i*2∧v=.int .i64 f.kind)∨(j=i*2+1∧v=.string (txt f.text))):=by
 have hj:j<fs.length*2:=by rw [← fcells_len];exact get_lt h
 have hi:j / 2<fs.length:=by omega
 have g:=fcells_get fs (j / 2) fs[j / 2] (List.getElem?_eq_getElem hi)
 refine ⟨j / 2,fs[j / 2],List.getElem?_eq_getElem hi,?_⟩
 rcases Nat.mod_two_eq_zero_or_one j with e | e
 ·left
  have ej:j / 2*2=j:=by omega
  rw [ej] at g
  exact ⟨ej.symm,Option.some.inj (h.symm.trans g.1)⟩
 ·right
  have ej:j / 2*2+1=j:=by omega
  rw [ej] at g
  exact ⟨ej.symm,Option.some.inj (h.symm.trans g.2)⟩
theorem finfo:∃ i,Tryz.prog.info? 113=some i∧i.zero=some (.agg #[.int .i64 0,.string ⟨#[]⟩])∧i.size=2∧i.bytes=24:=by
 have h:(Tryz.prog.info? 113).map (fun i=>(i.zero,i.size,i.bytes))=some (some (.agg #[.int .i64 0,.string ⟨#[]⟩]),2,24):=by kernel_rfl
 obtain ⟨i,hi,hzz⟩:=Option.map_eq_some_iff.1 h
 simp only [Prod.mk.injEq] at hzz
 exact ⟨i,hi,hzz.1,hzz.2.1,hzz.2.2⟩
theorem run_copy_sz {P:Program} (w:World) (dT sT ty elem:TypeId) (b o dLen dCap:Nat) (a:Addr) (sLen sCap n size:Nat) (cs:List Value)
  (hu:P.underlying dT=some (.slice elem)) (hs:(P.info? elem).map (·.size)=some size) (hn:Nat.min sLen dLen=n) (hl:cs.length=n*size)
  (hsrc:∀ j v,cs[j]?=some v→w.cell? (a.add j)=some v) (hc:∀ j,j<cs.length→(w.cell? ⟨b,o+j,none⟩).isSome=true) (hf:∀ j,j<cs.length→w.frozen? ⟨b,o+j,none⟩=false) (h1:∀ v ∈ cs,v.oneCell'=true) :
  (Builtin.copy_ #[dT,sT] ty #[.slice (some ⟨b,o,none⟩) dLen dCap,.slice (some a) sLen sCap]).run P w=.ok (goInt n) (w.setCells b o cs):=by
 have hld:=run_loadCells_list (P:=P) w a cs hsrc
 have hst:=run_storeCells_cells (P:=P) b o cs 0 w (by simpa using hc) (by simpa using hf) h1
 rw [hl] at hld
 cases hq:P.info? elem with
 | none=>simp [hq] at hs
 | some i =>
  have hi:i.size=size:=by simpa [hq] using hs
  simp [Builtin.copy_,run_underlying hu,Builtin.lenOf,Builtin.firstCells,sizeOf,typeInfo,hq,hi,hn,hld,hst]
def setAll (cs:Array Value):Nat→List Value→Array Value
 | _,[]=>cs
 | o,v :: r=>setAll (cs.setIfInBounds o v) (o+1) r
theorem setAll_size (vs:List Value):∀ (cs:Array Value) (o:Nat),(setAll cs o vs).size=cs.size:=by
 induction vs with
 | nil=>intro cs o;rfl
 | cons v r ih=>intro cs o;rw [setAll,ih,Array.size_setIfInBounds]
theorem heap_setAll (b:Nat) (T:TypeId) (vs:List Value):∀ (w:World) (cs:Array Value) (o:Nat),w.heap[b]?=some (.cells cs T)→(w.setCells b o vs).heap[b]?=some (.cells (setAll cs o vs) T):=by
 induction vs with
 | nil=>intro w cs o h;exact h
 | cons v r ih=>intro w cs o h;exact ih _ _ _ (heap_setCell_same w b o cs T v h)
theorem setAll_get (vs:List Value):∀ (cs:Array Value) (o j:Nat),o+vs.length≤cs.size→(setAll cs o vs)[j]?=if o≤j∧j<o+vs.length then vs[j - o]? else cs[j]?:=by
 induction vs with
 | nil=>intro cs o j _;rw [if_neg (by simp)];rfl
 | cons v r ih =>
  intro cs o j h
  simp only [List.length_cons] at h
  rw [setAll,ih _ _ _ (by rw [Array.size_setIfInBounds];omega)]
  simp only [List.length_cons]
  by_cases h1:o+1≤j∧j<o+1+r.length
  ·rw [if_pos h1,if_pos (by omega),show j - o=(j - (o+1))+1 by omega]
   rfl
  ·rw [if_neg h1]
   by_cases h2:j=o
   ·subst h2
    rw [if_pos (by omega),set_eq (by omega),Nat.sub_self]
    rfl
   ·rw [if_neg (by omega),set_ne (by omega)]
theorem near_setCells (b:Nat) (vs:List Value):∀ (a w:World) (o:Nat),Near b a w→Near b a (w.setCells b o vs):=by
 induction vs with
 | nil=>intro a w o h;exact h
 | cons v r ih=>intro a w o h;exact ih _ _ _ (h.setCell o v)
set_option maxHeartbeats 1000000 in
theorem told (w:World) (B g:Nat) (wide long:Bool) (held:List UInt8) (fs:List Hd.Fd) (h:Dw w B g wide long held fs) :
  Calls Tryz.prog 119 #[.pointer (some ⟨B,0,none⟩)] w fun e w'=>∃ v,e=.returned v∧w'.ownsRow w.heap.size 113 2 v fs.length (fcells fs)∧Below w.heap.size w w':=by
 have hBw:=h.lt
 obtain ⟨cs,hB,hd⟩:=h
 obtain ⟨fi,hi1,hi2,hi3,hi4⟩:=finfo
 have e2:w.cell? ⟨B,1108,none⟩=some (.int .i64 fs.length):=by rw [cell_of_row _ _ _ _ _ _ hB];exact hd.cn
 have hl:=hd.fl
 have HB:=hide hB
 have HD:=hide hd
 clear hB hd
 go_enter Tryz.func119,Tryz.ntmps119
 go_wp2_with (first
  | (at_make;refine wpList_make_full w rfl _ _ 110 rfl w.heap.size 113 fi _ 2 Tryz.underlying110 hi1 hi2 hi3 .i64 .i64 _ _ fs.length rfl rfl rfl rfl (by rw [hi4];omega) (by unfold maxLen;omega) (Nat.le_refl _) ?_;rintro w1 ho1 hg1;have HO1:=hide ho1;have HG1:=hide hg1;clear ho1 hg1))
 have hb1:Below w.heap.size w w1:=(Below.refl _ _).grown (uh HG1) (Nat.le_refl _) (fun k hk=>by cases hk)
 have hB1:w1.heap[B]?=some (.cells cs 154):=(hb1.block B hBw).trans (uh HB)
 have e3:w1.cell? ⟨B,1108,none⟩=some (.int .i64 fs.length):=by rw [cell_of_row _ _ _ _ _ _ hB1];exact (uh HD).cn
 obtain ⟨cur,hc1,hc2⟩:∃ cur,w1.heap[w.heap.size]?=some (.cells cur 113)∧cur.size=fs.length*2:=by
  rcases (uh HO1).2 with ⟨k,_⟩ | ⟨g',cap,cur,k1,_,k3,_,_,k6,_⟩
  ·cases k
  ·simp only [Value.slice.injEq,Option.some.injEq,Addr.mk.injEq,true_and,and_true] at k1
   obtain ⟨rfl,rfl⟩:=k1
   exact ⟨cur,k3,k6⟩
 have hcp:(Builtin.copy_ #[110,110] 3 #[.slice (some ⟨w.heap.size,0,none⟩) fs.length fs.length,.slice (some ⟨B,308,none⟩) fs.length 400]).run Tryz.prog w1.drew=.ok (goInt fs.length) (w1.drew.setCells w.heap.size 0 (fcells fs)):=by
  refine run_copy_sz w1.drew 110 110 _ 113 w.heap.size 0 _ _ ⟨B,308,none⟩ _ _ fs.length 2 (fcells fs) Tryz.underlying110 (by rw [hi1];simp [hi3]) (Nat.min_self _) (fcells_len fs) ?_ ?_ ?_ (fcells_one fs)
  ·intro j v hv
   rw [Addr.add_lit]
   show w1.cell? _=_
   rw [cell_of_row _ _ _ _ _ _ hB1]
   obtain ⟨i,f,hf,(⟨rfl,rfl⟩ | ⟨rfl,rfl⟩)⟩:=fcells_cell fs j v hv
   ·exact (uh HD).fk i f hf
   ·exact (uh HD).ft i f hf
  ·intro j hj
   rw [fcells_len] at hj
   show (w1.cell? _).isSome=true
   rw [cell_of_row _ _ _ _ _ _ hc1,Nat.zero_add,Array.getElem?_eq_getElem (by omega)]
   rfl
  ·intro j hj
   exact frz (w:=w1) hc1 _
 have hle:(fs.length:Int)≤400:=by omega
 have HC1:=hide hc1
 clear hB1 hc1
 go_region
 go_wp2
 go_ret
 have hs0:0+(fcells fs).length≤cur.size:=by rw [fcells_len,hc2];omega
 have hbE:=heap_setAll w.heap.size 113 (fcells fs) w1.drew cur 0 (uh HC1)
 have hN:Near w.heap.size w1 (w1.drew.setCells w.heap.size 0 (fcells fs)):=near_setCells _ _ _ _ _ (Near.refl _ _).drew
 refine ⟨_,rfl,⟨by rw [fcells_len],Or.inr ⟨w.heap.size,fs.length,_,rfl,Nat.le_refl _,hbE,Nat.le_refl _,by unfold maxLen;omega,by rw [setAll_size,hc2],?_⟩⟩,hb1.trans (hN.below (Nat.le_refl _) hb1.size)⟩
 apply List.ext_getElem?
 intro j
 rw [List.getElem?_take,Array.getElem?_toList,setAll_get _ _ _ _ hs0,fcells_len]
 by_cases hj:j<fs.length*2
 ·rw [if_pos hj,if_pos (by omega),Nat.sub_zero]
 ·rw [if_neg hj,List.getElem?_eq_none (by rw [fcells_len];omega)]
end Go.Proofs.YtkcghhkkepndnaaGreatDoor
namespace Go.Proofs.YtkcghhkkepndnaaGreatDoor
open Go.RowKit
def isAggV:Value→Bool
 | .agg _=>true
 | _=>false
theorem isAggV_get {z:Value} (h:isAggV z=true):∃ Z,z=.agg Z:=by
 cases z<;>first | exact ⟨_,rfl⟩ | cases h
theorem infoD:∃ (it:TypeInfo) (z:Value),Tryz.prog.info? 154=some it∧it.zero=some z∧it.size=1109∧z.cells.size=1109∧z.cells[307]?=some (.int .i64 0)∧z.cells[1108]?=some (.int .i64 0)∧z.cells.toList.all (fun v=>v.oneCell')=true∧(∃ Z,z=.agg Z):=by
 have h1:(Tryz.prog.info? 154).map (fun i=>(i.zero.map fun z=>(z.cells.size,z.cells[307]?,z.cells[1108]?),i.size))=some (some (1109,some (.int .i64 0),some (.int .i64 0)),1109):=by kernel_rfl
 have h2:(Tryz.prog.info? 154).map (fun i=>(i.zero.map fun z=>(z.cells.toList.all (fun v=>v.oneCell'),isAggV z)))=some (some (true,true)):=by kernel_rfl
 obtain ⟨it,hi,h3⟩:=Option.map_eq_some_iff.1 h1
 rw [hi] at h2
 simp only [Option.map_some,Option.some.injEq,Prod.mk.injEq] at h2 h3
 obtain ⟨h4,h5⟩:=h3
 obtain ⟨z,hz,h6⟩:=Option.map_eq_some_iff.1 h4
 rw [hz] at h2
 simp only [Option.map_some,Option.some.injEq,Prod.mk.injEq] at h2 h6
 exact ⟨it,z,hi,hz,h5,h6.1,h6.2.1,h6.2.2,h2.1,isAggV_get h2.2⟩
def cellsD (Z:Array Value) (wide long:Bool) (fn:Value):Array Value:=((Z.setIfInBounds 0 (.bool wide)).setIfInBounds 1 (.bool long)).setIfInBounds 2 fn
theorem dcD (Z:Array Value) (hs:Z.size=1109) (h7:Z[307]?=some (.int .i64 0)) (h8:Z[1108]?=some (.int .i64 0)) (wide long:Bool) (g:Nat) :
  Dc (cellsD Z wide long (.func (.func 134) #[] #[.pointer (some ⟨g,0,none⟩)])) g wide long [] [] where
 size:=by simp [cellsD,hs]
 c0:=by unfold cellsD;rw [set_ne (by decide),set_ne (by decide),set_eq (by omega)]
 c1:=by unfold cellsD;rw [set_ne (by decide),set_eq (by rw [set_size];omega)]
 c2:=by unfold cellsD;rw [set_eq (by rw [set_size,set_size];omega)]
 cz:=by unfold cellsD;rw [set_ne (by decide),set_ne (by decide),set_ne (by decide)];exact h7
 cn:=by unfold cellsD;rw [set_ne (by decide),set_ne (by decide),set_ne (by decide)];exact h8
 hl:=by simp
 fl:=by simp
 hv:=fun i c h=>by simp at h
 fk:=fun i f h=>by simp at h
 ft:=fun i f h=>by simp at h
theorem dcS (Z:Array Value) (hs:Z.size=1109) (h7:Z[307]?=some (.int .i64 0)) (h8:Z[1108]?=some (.int .i64 0)) (wide long:Bool) (g:Nat) :
  Dc (setAll Z 0 (((Z.toList.set 0 (.bool wide)).set 1 (.bool long)).set 2 (.func (.func 134) #[] #[.pointer (some ⟨g,0,none⟩)]))) g wide long [] []:=by
 have e:setAll Z 0 (((Z.toList.set 0 (.bool wide)).set 1 (.bool long)).set 2 (.func (.func 134) #[] #[.pointer (some ⟨g,0,none⟩)]))=cellsD Z wide long (.func (.func 134) #[] #[.pointer (some ⟨g,0,none⟩)]):=by
  apply Array.ext_getElem?
  intro j
  have hl:(((Z.toList.set 0 (.bool wide)).set 1 (.bool long)).set 2 (.func (.func 134) #[] #[.pointer (some ⟨g,0,none⟩)])).length=1109:=by simp [hs]
  rw [setAll_get _ _ _ _ (by rw [hl,hs];omega),hl]
  unfold cellsD
  by_cases hj:j<1109
  ·rw [if_pos (by omega),Nat.sub_zero]
   simp only [List.getElem?_set,Array.getElem?_setIfInBounds,List.length_set,Array.length_toList,Array.size_setIfInBounds,Array.getElem?_toList]
  ·rw [if_neg (by omega),set_ne (by omega),set_ne (by omega),set_ne (by omega)]
 rw [e]
 exact dcD Z hs h7 h8 wide long g
theorem store_D (Z:Array Value) (hs:Z.size=1109) (ho:Z.toList.all (fun v=>v.oneCell')=true) (wide long:Bool) (g B:Nat) (W:World) (hB:W.heap[B]?=some (.cells Z 154)) :
  (storeCells ⟨B,0,none⟩ (((Z.toList.set 0 (.bool wide)).set 1 (.bool long)).set 2 (.func (.func 134) #[] #[.pointer (some ⟨g,0,none⟩)]))).run Tryz.prog W=.ok () (W.setCells B 0 (((Z.toList.set 0 (.bool wide)).set 1 (.bool long)).set 2 (.func (.func 134) #[] #[.pointer (some ⟨g,0,none⟩)]))):=by
 have h:=run_storeCells_cells (P:=Tryz.prog) B 0 (((Z.toList.set 0 (.bool wide)).set 1 (.bool long)).set 2 (.func (.func 134) #[] #[.pointer (some ⟨g,0,none⟩)])) 0 W (fun j hj=>by
  have hj2:j<1109:=by simpa [hs] using hj
  rw [cell_of_row _ _ _ _ _ _ hB,Array.getElem?_eq_getElem (by omega)]
  rfl) (fun j _=>frz hB _) (fun v hv=>by
  have h1:=List.all_eq_true.1 ho
  rcases List.mem_or_eq_of_mem_set hv with hv | rfl
  ·rcases List.mem_or_eq_of_mem_set hv with hv | rfl
   ·rcases List.mem_or_eq_of_mem_set hv with hv | rfl
    ·exact h1 v hv
    ·rfl
   ·rfl
  ·rfl)
 simpa using h
theorem Dc.fill {cs:Array Value} {g:Nat} {wide long:Bool} (h:Dc cs g wide long [] []) (l:List UInt8) (hl:l.length≤304) (s:Int) (hs:s=(l.length:Int)) :
  Dc ((setAll cs 3 (vals l)).setIfInBounds 307 (.int .i64 s)) g wide long l []:=by
 have hb:3+(vals l).length≤cs.size:=by rw [vals_len,h.size];omega
 have ho:∀ j,j<3∨307≤j→(setAll cs 3 (vals l))[j]?=cs[j]?:=fun j hj=>by
  rw [setAll_get _ _ _ _ hb,if_neg (by rw [vals_len];omega)]
 constructor
 ·rw [set_size,setAll_size,h.size]
 ·rw [set_ne (by decide),ho _ (by omega)];exact h.c0
 ·rw [set_ne (by decide),ho _ (by omega)];exact h.c1
 ·rw [set_ne (by decide),ho _ (by omega)];exact h.c2
 ·rw [set_eq (by rw [setAll_size,h.size];decide),hs]
 ·rw [set_ne (by decide),ho _ (by omega)];exact h.cn
 ·exact hl
 ·simp
 ·intro i c hc
  have hi:=get_lt hc
  rw [set_ne (by omega),setAll_get _ _ _ _ hb,if_pos (by rw [vals_len];omega),show 3+i - 3=i by omega]
  simp [vals,nums,hc]
 ·intro i f hf;simp at hf
 ·intro i f hf;simp at hf
theorem run_copy_str {P:Program} (w:World) (dT sT ty elem:TypeId) (b o dLen dCap:Nat) (t:ByteArray)
  (hu:P.underlying dT=some (.slice elem)) (hs:(P.info? elem).map (·.size)=some 1) (hn:t.size≤dLen)
  (hc:∀ j,j<t.size→(w.cell? ⟨b,o+j,none⟩).isSome=true) (hf:∀ j,j<t.size→w.frozen? ⟨b,o+j,none⟩=false) :
  (Builtin.copy_ #[dT,sT] ty #[.slice (some ⟨b,o,none⟩) dLen dCap,.string t]).run P w=.ok (goInt t.size) (w.setCells b o (vals t.data.toList)):=by
 have hl:(vals t.data.toList).length=t.size:=by rw [vals_len,Array.length_toList];rfl
 have hst:=run_storeCells_cells (P:=P) b o (vals t.data.toList) 0 w (by rw [hl];simpa using hc) (by rw [hl];simpa using hf) (fun v hv=>by
  simp only [vals,nums,List.map_map,List.mem_map] at hv
  obtain ⟨x,_,rfl⟩:=hv
  rfl)
 have hmin:Nat.min t.size dLen=t.size:=Nat.min_eq_left hn
 have hcells:List.take t.size (List.map (fun b:UInt8=>Value.int .u8 b.toNat) t.data.toList)=vals t.data.toList:=by
  rw [List.take_of_length_le (by rw [List.length_map,Array.length_toList];exact Nat.le_refl _)]
  simp [vals,nums]
 cases hq:P.info? elem with
 | none=>simp [hq] at hs
 | some i =>
  simp only [Nat.add_zero] at hst
  simp [Builtin.copy_,run_underlying hu,Builtin.lenOf,Builtin.firstCells,sizeOf,typeInfo,hq,hmin]
  rw [hcells,hst]
  rfl
end Go.Proofs.YtkcghhkkepndnaaGreatDoor
namespace Go.Proofs.YtkcghhkkepndnaaGreatDoor
open Go.RowKit
def HoldsF (w:World) (v:Value) (F:List Hd.Fd):Prop :=
 (∃ ad cp,v=.slice ad 0 cp∧F=[])∨∃ g cp cur,v=.slice (some ⟨g,0,none⟩) F.length cp∧w.heap[g]?=some (.cells cur 113)∧F.length*2≤cur.size∧∀ j,j<F.length*2→cur[j]?=(fcells F)[j]?
theorem HoldsF.own {w:World} {base:Nat} {v:Value} {F:List Hd.Fd} (h:w.ownsRow base 113 2 v F.length (fcells F)):HoldsF w v F:=by
 rcases h.2 with ⟨h1,h2⟩ | ⟨g,cap,cur,h1,_,h3,h4,_,h6,h7⟩
 ·exact Or.inl ⟨_,_,h1,List.eq_nil_of_length_eq_zero h2⟩
 ·refine Or.inr ⟨g,cap,cur,h1,h3,by rw [h6];omega,fun j hj=>?_⟩
  rw [← h7,List.getElem?_take,if_pos hj,Array.getElem?_toList]
theorem HoldsF.same {w w':World} {v:Value} {F:List Hd.Fd} (h:HoldsF w v F) (hb:∀ g,v.ownBlock=some g→w'.heap[g]?=w.heap[g]?):HoldsF w' v F :=
 h.imp id fun ⟨g,cp,cur,h1,h2,h3⟩=>⟨g,cp,cur,h1,(hb g (by rw [h1];rfl)).trans h2,h3⟩
theorem HoldsF.lt {w:World} {v:Value} {F:List Hd.Fd} (h:HoldsF w v F) (hF:F≠[]):∃ g,v.ownBlock=some g∧g<w.heap.size:=by
 rcases h with ⟨_,_,_,e⟩ | ⟨g,cp,cur,h1,h2,_⟩
 ·exact absurd e hF
 ·exact ⟨g,by rw [h1];rfl,(Array.getElem?_eq_some_iff.1 h2).1⟩
theorem HoldsF.below {w w':World} {v:Value} {F:List Hd.Fd} (h:HoldsF w v F) (hb:Below w.heap.size w w'):HoldsF w' v F :=
 h.imp id fun ⟨g,cp,cur,h1,h2,h3⟩=>⟨g,cp,cur,h1,(hb.block g (Array.getElem?_eq_some_iff.1 h2).1).trans h2,h3⟩
theorem HoldsF.form {w:World} {v:Value} {F:List Hd.Fd} (h:HoldsF w v F):∃ ad cp,v=.slice ad F.length cp:=by
 rcases h with ⟨ad,cp,h1,h2⟩ | ⟨g,cp,cur,h1,_⟩
 ·exact ⟨ad,cp,by rw [h1,h2];rfl⟩
 ·exact ⟨_,_,h1⟩
end Go.Proofs.YtkcghhkkepndnaaGreatDoor
namespace Go.Proofs.YtkcghhkkepndnaaGreatDoor.Pp
def ok (x:Int):Bool:=decide (0≤x∧x≤65535∧x % 2=1∧x / 256 % 2=0)
theorem ok_get {x:Int} (h:ok x=true):∃ k:Nat,x=k∧k<65536∧k % 2=1∧k / 256 % 2=0:=by
 have h':=of_decide_eq_true h
 exact ⟨x.toNat,by omega,by omega,by omega,by omega⟩
theorem ok_nat {k:Nat} (h1:k<65536) (h2:k % 2=1) (h3:k / 256 % 2=0):ok (k:Int)=true:=decide_eq_true (by omega)
def head (k:Nat) (a p:Bool):List UInt8 :=
 (if k=49185∨a=false then [0xff,3] else []) ++ (if k=49185∨p=false∨255<k then [UInt8.ofNat (k / 256),UInt8.ofNat k] else [UInt8.ofNat k])
theorem head_len (k:Nat) (a p:Bool):1≤(head k a p).length∧(head k a p).length≤4:=by
 unfold head
 split<;>split<;>simp
def pack (x:Int) (l:List UInt8) (a p:Bool):List UInt8 :=
 if l.length≤8000∧ok x=true then (if (head x.toNat a p).length+l.length≤8000 then head x.toNat a p ++ l else []) else []
def rest:List UInt8→List UInt8
 | []=>[]
 | [c]=>[c]
 | c :: d :: r=>if c=0xff∧d=3 then r else c :: d :: r
structure Out where
 proto:Int
 text:List UInt8
 code:Int
deriving DecidableEq
def read:List UInt8→Out
 | []=>⟨0,[],4⟩
 | [c]=>if c.toNat % 2=1 then ⟨c.toNat,[],0⟩ else ⟨0,[],4⟩
 | c :: d :: r=>if c.toNat % 2=1 then ⟨c.toNat,d :: r,0⟩ else if d.toNat % 2=1 then ⟨(256*c.toNat+d.toNat:Nat),r,0⟩ else ⟨0,[],3⟩
def unpack (l:List UInt8):Out:=if l.length≤8000 then read (rest l) else ⟨0,[],2⟩
theorem rest_len (l:List UInt8):(rest l).length≤l.length:=by
 rcases l with _ | ⟨c,_ | ⟨d,r⟩⟩
 ·exact Nat.le_refl _
 ·exact Nat.le_refl _
 ·rw [show rest (c :: d :: r)=(if c=0xff∧d=3 then r else c :: d :: r) from rfl]
  split
  ·simp;omega
  ·exact Nat.le_refl _
theorem read_one {k:Nat} (hk:k<256) (h2:k % 2=1) (l:List UInt8):read (UInt8.ofNat k :: l)=⟨k,l,0⟩:=by
 have hn:(UInt8.ofNat k).toNat=k:=by simp;omega
 rcases l with _ | ⟨d,r⟩
 ·simp only [read,hn];rw [if_pos h2]
 ·simp only [read,hn];rw [if_pos h2]
theorem read_two {k:Nat} (hk:k<65536) (h2:k % 2=1) (h3:k / 256 % 2=0) (l:List UInt8):read (UInt8.ofNat (k / 256) :: UInt8.ofNat k :: l)=⟨k,l,0⟩:=by
 have hn:(UInt8.ofNat (k / 256)).toNat=k / 256:=by simp;omega
 have hm:(UInt8.ofNat k).toNat=k % 256:=by simp
 simp only [read,hn,hm]
 rw [if_neg (by omega),if_pos (by omega)]
 congr 1
 omega
theorem rest_front (l:List UInt8):rest (0xff :: 3 :: l)=l:=by simp [rest]
theorem rest_even {c:UInt8} (h:c.toNat % 2=0) (l:List UInt8):rest (c :: l)=c :: l:=by
 rcases l with _ | ⟨d,r⟩
 ·rfl
 ·rw [show rest (c :: d :: r)=(if c=0xff∧d=3 then r else c :: d :: r) from rfl,if_neg]
  rintro ⟨rfl,_⟩
  exact absurd h (by decide)
theorem back (x:Int) (l:List UInt8) (a p:Bool) (h:pack x l a p≠[]) (ho:¬ (a=true∧x=255∧p=true∧∃ r,l=3 :: r)):unpack (pack x l a p)=⟨x,l,0⟩:=by
 unfold pack at h ⊢
 split at h
 ·rename_i h1
  rw [if_pos h1]
  split at h
  ·rename_i h4
   rw [if_pos h4]
   obtain ⟨k,rfl,hk,h2,h3⟩:=ok_get h1.2
   rw [Int.toNat_natCast] at h4 ⊢
   unfold unpack
   rw [if_pos (by rw [List.length_append];exact h4)]
   have hn:(UInt8.ofNat (k / 256)).toNat=k / 256:=by simp;omega
   unfold head
   by_cases c1:k=49185∨a=false
   ·rw [if_pos c1]
    by_cases c2:k=49185∨p=false∨255<k
    ·rw [if_pos c2]
     exact (congrArg read (rest_front _)).trans (read_two hk h2 h3 l)
    ·rw [if_neg c2]
     exact (congrArg read (rest_front _)).trans (read_one (by omega) h2 l)
   ·rw [if_neg c1]
    by_cases c2:k=49185∨p=false∨255<k
    ·rw [if_pos c2]
     exact (congrArg read (rest_even (by rw [hn];exact h3) _)).trans (read_two hk h2 h3 l)
    ·rw [if_neg c2]
     have hr:rest (UInt8.ofNat k :: l)=UInt8.ofNat k :: l:=by
      rcases l with _ | ⟨d,r⟩
      ·rfl
      ·rw [show rest (UInt8.ofNat k :: d :: r)=(if UInt8.ofNat k=0xff∧d=3 then r else UInt8.ofNat k :: d :: r) from rfl,if_neg]
       rintro ⟨e1,rfl⟩
       have e2:=congrArg UInt8.toNat e1
       rw [show (UInt8.ofNat k).toNat=k by simp;omega,show (UInt8.toNat 255)=255 from rfl] at e2
       refine ho ⟨?_,by rw [e2];rfl,?_,r,rfl⟩
       ·cases a
        ·exact absurd (Or.inr rfl) c1
        ·rfl
       ·cases p
        ·exact absurd (Or.inr (Or.inl rfl)) c2
        ·rfl
     exact (congrArg read hr).trans (read_one (by omega) h2 l)
  ·exact absurd rfl h
 ·exact absurd rfl h
end Go.Proofs.YtkcghhkkepndnaaGreatDoor.Pp
