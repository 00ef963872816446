/- The table of 256 of a check sum, of both widths: the walk of sumTable: it hands back the array whose cell j is eight shifts of j; no condition but that the rule fits its kind. The model's own sum (l01Sum of the verifier's package spec): it answers the sum of the bytes, where sum and rule are below 2 to the 32; the world stays as it was. The mathematics of packets of protocols: which numbers are protocols, what a packet's head is, what is read of a text; a text comes back from its packet; no program, no condition. A range over a function, walked: the loop's own records stand beside whatever the rounds and the iterator do to cells; no condition but those named. Rows of numbers in memory: what they hold, and a number put behind one; no condition but those named. -/
import Derived.Test.YtkcghhkkepndnaaGreatDoorS00
import Derived.Deep.WholeRow
import Derived.Laws.ResultCell
import Derived.Deep.LoopGhost
import Derived.Test.YtkcghhkkepndnaaGreatDoorShW
import Derived.RangeFuncWrites
import Derived.RangeFuncCalls
import Derived.RangeFuncLeaves
import Derived.RangeFuncSeq
import Derived.OrdersIn
import Derived.TacticsIn
import Derived.OrdersHeld
namespace Go.Proofs.YtkcghhkkepndnaaGreatDoor
open Go.RowKit

theorem setRow_alloc_second (w:World) (c c':Array Value) (t:TypeId) (o:Obj) :
  ((w.alloc (.cells c t)).alloc o).setRow w.heap.size c'=(w.alloc (.cells c' t)).alloc o:=by
 simp only [World.setRow,World.alloc]
 congr 1
 apply Array.ext_getElem?
 intro i
 rw [Array.getElem?_modify]
 by_cases h:w.heap.size=i
 ·subst h
  simp [Array.getElem?_push]
 ·have h':¬ i=w.heap.size:=fun e=>h e.symm
  simp [h,h',Array.getElem?_push]
theorem heap_alloc_second (w:World) (o o':Obj):((w.alloc o).alloc o').heap[w.heap.size]?=some o:=by
 show ((w.heap.push o).push o')[w.heap.size]?=some o
 simp [Array.getElem?_push]
theorem heap_alloc_two (w:World) (o o':Obj):((w.alloc o).alloc o').heap[w.heap.size+1]?=some o':=by
 have:=heap_alloc_last (w.alloc o) o'
 have e:(w.alloc o).heap.size=w.heap.size+1:=by simp
 rw [e] at this
 exact this

theorem results_cell {fn:Func} {p:Tmp} {ty:TypeId} (h:fn.results=#[.cell p ty]) (tmps:Array Value) (P:Program) (w:World) :
  (results fn tmps).run P w=((asAddr (tmps.getD p undef)).run P w).andThen fun a w₁=>(loadVar ty a).run P w₁:=by
 simp only [results,h]
 simp [Sem.run_bind,Result.andThen]

theorem wpList_load_row {P:Program} (w:World) {ops:Array Oper} {rest:List Oper} {o:Oper} {a:Act} {Q:Exit→Act→World→Prop}
  (hg:o.guard=none) (t:TypeId) (p:Operand) (hop:o.op=Op.load t p) (g:Nat) (c:Array Value) (n:Nat) (e:TypeId)
  (hp:a.eval p=.pointer (some ⟨g,0,none⟩)) (hh:w.heap[g]?=some (.cells c t (0,0))) (hu:P.underlying t=some (.array n e))
  (hi:(P.info? t).map (·.size)=some c.size) (hK:wpList P ops Q rest (a.put o.dst (.agg c)) w):wpList P ops Q (o :: rest) a w:=by
 refine wpList_plain hg fun K hK'=>?_
 have hrun:(Instr.loadAt t (.pointer (some ⟨g,0,none⟩))).run P w=.ok (.agg c) w:=by
  simp only [Instr.loadAt,Instr.sureAddr,Sem.run_bind,Sem.run_pure,Result.andThen]
  exact run_loadVar_row w g t t c (0,0) _ hh hu rfl hi
 unfold Oper.wp
 simp [execOp,hop,hp,hrun,Result.andThen]
 exact hK' _ _ hK
theorem wpList_store_row {P:Program} (w:World) {ops:Array Oper} {rest:List Oper} {o:Oper} {a:Act} {Q:Exit→Act→World→Prop}
  (hg:o.guard=none) (t:TypeId) (p x:Operand) (hop:o.op=Op.store t p x) (g:Nat) (old c:Array Value)
  (hp:a.eval p=.pointer (some ⟨g,0,none⟩)) (hx:a.eval x=.agg c) (hh:w.heap[g]?=some (.cells old t (0,0)))
  (hi:(P.info? t).map (·.size)=some c.size) (ho:old.size=c.size) (h1:c.all (·.oneCell')=true)
  (hK:wpList P ops Q rest (a.put o.dst undef) (w.setRow g c)):wpList P ops Q (o :: rest) a w:=by
 refine wpList_plain hg fun K hK'=>?_
 have hrun:(Instr.storeAt t (.pointer (some ⟨g,0,none⟩)) (.agg c)).run P w=.ok () (w.setRow g c):=by
  simp only [Instr.storeAt,Instr.sureAddr,Sem.run_bind,Sem.run_pure,Result.andThen]
  exact run_storeVar_row w g t t old c hh hi ho h1
 unfold Oper.wp
 simp [execOp,hop,hp,hx,hrun,Result.andThen]
 exact hK' _ _ hK

def tabC (K:IntKind) (r k:Nat):Array Value:=(Array.range 256).map fun j=>.int K (if j<k then (Fcs.stp r 8 j:Nat) else 0)
theorem tabC_size (K:IntKind) (r k:Nat):(tabC K r k).size=256:=by simp [tabC]
theorem tabC_zero (K:IntKind) (r:Nat):tabC K r 0=Array.replicate 256 (.int K 0):=by
 apply Array.ext_getElem?
 intro i
 simp only [tabC,Array.getElem?_map,Array.getElem?_range,Array.getElem?_replicate]
 by_cases h:i<256<;>simp [h]
theorem tabC_succ (K:IntKind) (r k:Nat) (h:k<256):(tabC K r k).setIfInBounds k (.int K (Fcs.stp r 8 k:Nat))=tabC K r (k+1):=by
 apply Array.ext_getElem?
 intro i
 rw [Array.getElem?_setIfInBounds,tabC_size]
 simp only [tabC,Array.getElem?_map,Array.getElem?_range]
 by_cases hi:k=i
 ·subst hi
  simp [h]
 ·by_cases h2:i<256
  ·by_cases h3:i<k
   ·have:i<k+1:=by omega
    simp [hi,h2,h3,this]
   ·have:¬ i<k+1:=by omega
    simp [hi,h2,h3,this]
  ·simp [hi,h2]
theorem tabC_at (K:IntKind) (r j:Nat) (h:j<256):(tabC K r 256)[j]?=some (.int K (Fcs.stp r 8 j:Nat)):=by
 simp [tabC,h]
theorem tabC_one (K:IntKind) (r k:Nat):(tabC K r k).all (·.oneCell')=true:=by
 rw [Array.all_eq_true]
 intro i hi
 simp [tabC,Value.oneCell']

theorem tabInfo_u16:(Tryz.prog.info? 179).map (fun i=>(i.zero,i.size))=some (some (.agg (Array.replicate 256 (.int .u16 0))),256):=by kernel_rfl

set_option maxHeartbeats 1000000 in
set_option maxRecDepth 100000 in
theorem table_u16 (r:Nat) (w:World) (hr:r<65536) :
  Calls Tryz.prog 140 #[.int .u16 r] w fun e w'=>e=.returned (.agg (tabC .u16 r 256))∧w'=(w.alloc (.cells (tabC .u16 r 256) 179)).alloc (.cells (tabC .u16 r 256) 179):=by
 have hv:=(zero_of_info tabInfo_u16).1
 have hi:=(zero_of_info tabInfo_u16).2
 go_enter Tryz.func140,Tryz.ntmps140
 go_wp2_with fail
 rw [← tabC_zero .u16 r]
 generalize hc0:tabC .u16 r 0=c0
 have hs0:c0.size=256:=by rw [← hc0,tabC_size]
 have HC0:=hide hc0
 go_loopw [5] (fun i wr=>∃ k:Nat,k≤256∧i=.int .i64 k∧wr=(w.alloc (.cells c0 179)).alloc (.cells (tabC .u16 r k) 179)) (fun i _=>256 - (intOf i).toNat)
 case atStart=>exact ⟨0,by omega,rfl,by rw [uh HC0]⟩
 case round =>
  obtain ⟨k,hk,rfl,rfl⟩:=hrel
  clear hc0
  by_cases hlt:k<256
  ·have hlt':(k:Int)<256:=by omega
   have hsz:=tabC_size .u16 r k
   go_wp2_with fail
   refine (shift_u16 k r _ (by omega) hr).mono ?_
   rintro e w' ⟨rfl,rfl⟩
   go_wp2
   go_roundw
   case rel=>exact ⟨k+1,by omega,by go_num,by rw [← tabC_succ .u16 r k hlt]⟩
   case measure=>simp [intOf];omega
  ·obtain rfl:k=256:=by omega
   have hsz:=tabC_size .u16 r 256
   have hld:=run_loadVar_row (P:=Tryz.prog) ((w.alloc (.cells (tabC .u16 r 256) 179)).alloc (.cells (tabC .u16 r 256) 179)) w.heap.size 179 179 (tabC .u16 r 256) (0,0) _ (heap_alloc_second w _ _) Tryz.underlying179 rfl (by rw [hsz];exact hi)
   go_wp2_with (first
    | (refine wpList_load_row _ rfl 179 _ rfl (w.heap.size+1) (tabC .u16 r 256) 256 _ rfl (heap_alloc_two w _ _) Tryz.underlying179 (by rw [hsz];exact hi) ?_)
    | (refine wpList_store_row _ rfl 179 _ _ rfl w.heap.size c0 (tabC .u16 r 256) rfl rfl (heap_alloc_second w _ _) (by rw [hsz];exact hi) (by rw [hsz,hs0]) (tabC_one _ _ _) ?_;rw [setRow_alloc_second]))
   refine bodyPost_ret (v:=.agg (tabC .u16 r 256)) ?_ rfl ⟨rfl,rfl⟩
   rw [results_cell rfl]
   simp [asAddr,Result.andThen,Act.put,hld]
theorem tabInfo_u32:(Tryz.prog.info? 175).map (fun i=>(i.zero,i.size))=some (some (.agg (Array.replicate 256 (.int .u32 0))),256):=by kernel_rfl

set_option maxHeartbeats 1000000 in
set_option maxRecDepth 100000 in
theorem table_u32 (r:Nat) (w:World) (hr:r<4294967296) :
  Calls Tryz.prog 138 #[.int .u32 r] w fun e w'=>e=.returned (.agg (tabC .u32 r 256))∧w'=(w.alloc (.cells (tabC .u32 r 256) 175)).alloc (.cells (tabC .u32 r 256) 175):=by
 have hv:=(zero_of_info tabInfo_u32).1
 have hi:=(zero_of_info tabInfo_u32).2
 go_enter Tryz.func138,Tryz.ntmps138
 go_wp2_with fail
 rw [← tabC_zero .u32 r]
 generalize hc0:tabC .u32 r 0=c0
 have hs0:c0.size=256:=by rw [← hc0,tabC_size]
 have HC0:=hide hc0
 go_loopw [5] (fun i wr=>∃ k:Nat,k≤256∧i=.int .i64 k∧wr=(w.alloc (.cells c0 175)).alloc (.cells (tabC .u32 r k) 175)) (fun i _=>256 - (intOf i).toNat)
 case atStart=>exact ⟨0,by omega,rfl,by rw [uh HC0]⟩
 case round =>
  obtain ⟨k,hk,rfl,rfl⟩:=hrel
  clear hc0
  by_cases hlt:k<256
  ·have hlt':(k:Int)<256:=by omega
   have hsz:=tabC_size .u32 r k
   go_wp2_with fail
   refine (shift_u32 k r _ (by omega) hr).mono ?_
   rintro e w' ⟨rfl,rfl⟩
   go_wp2
   go_roundw
   case rel=>exact ⟨k+1,by omega,by go_num,by rw [← tabC_succ .u32 r k hlt]⟩
   case measure=>simp [intOf];omega
  ·obtain rfl:k=256:=by omega
   have hsz:=tabC_size .u32 r 256
   have hld:=run_loadVar_row (P:=Tryz.prog) ((w.alloc (.cells (tabC .u32 r 256) 175)).alloc (.cells (tabC .u32 r 256) 175)) w.heap.size 175 175 (tabC .u32 r 256) (0,0) _ (heap_alloc_second w _ _) Tryz.underlying175 rfl (by rw [hsz];exact hi)
   go_wp2_with (first
    | (refine wpList_load_row _ rfl 175 _ rfl (w.heap.size+1) (tabC .u32 r 256) 256 _ rfl (heap_alloc_two w _ _) Tryz.underlying175 (by rw [hsz];exact hi) ?_)
    | (refine wpList_store_row _ rfl 175 _ _ rfl w.heap.size c0 (tabC .u32 r 256) rfl rfl (heap_alloc_second w _ _) (by rw [hsz];exact hi) (by rw [hsz,hs0]) (tabC_one _ _ _) ?_;rw [setRow_alloc_second]))
   refine bodyPost_ret (v:=.agg (tabC .u32 r 256)) ?_ rfl ⟨rfl,rfl⟩
   rw [results_cell rfl]
   simp [asAddr,Result.andThen,Act.put,hld]

theorem and1_u64 (n:Nat) (h:n<4294967296):bits .and .u64 (n:Int) 1=((n % 2:Nat):Int):=by
 have:=u64_and_nat n 1 (by omega) (by decide)
 rw [nat_mask1] at this
 exact this
theorem xor2_u64 (n r:Nat) (h:n<4294967296) (hr:r<4294967296):bits .xor .u64 ((n:Int) / 2) (r:Int)=((n / 2 ^^^ r:Nat):Int):=by
 have:=u64_xor_nat (n / 2) r (by omega) (by omega)
 rw [← this]
 rfl
theorem xorb_u64 (n b:Nat) (h:n<4294967296) (hb:b<256):bits .xor .u64 (n:Int) (b:Int)=((n ^^^ b:Nat):Int) :=
 u64_xor_nat n b (by omega) (by omega)
theorem xorb_lt (n b:Nat) (h:n<4294967296) (hb:b<256):n ^^^ b<4294967296:=Nat.xor_lt_two_pow (n:=32) h (by omega)
theorem sumL_lt32 (r s:Nat) (l:List UInt8) (hs:s<4294967296) (hr:r<4294967296):Fcs.sumL r s l<4294967296:=Fcs.sumL_lt (n:=32) (by decide) hr l s hs
theorem sumL_lt16 (r s:Nat) (l:List UInt8) (hs:s<65536) (hr:r<65536):Fcs.sumL r s l<65536:=Fcs.sumL_lt (n:=16) (by decide) hr l s hs

set_option maxHeartbeats 1000000 in
theorem modelSum (s r:Nat) (t:ByteArray) (w:World) (hs:s<4294967296) (hr:r<4294967296) (ht:t.size≤maxLen) :
  Calls Tryz.prog 126 #[.int .u64 s,.string t,.int .u64 r] w fun e w'=>e=.returned (.int .u64 (Fcs.sumL r s t.data.toList:Nat))∧w'=w:=by
 unfold maxLen at ht
 go_enter Tryz.func126,Tryz.ntmps126
 go_wp2
 go_loop [0,7] (fun x i=>∃ (k:Nat),k≤t.size∧i=.int .i64 k∧x=.int .u64 (Fcs.sumL r s (t.data.toList.take k):Nat)) (fun _ i=>t.size - (intOf i).toNat)
 case atStart=>exact ⟨0,Nat.zero_le _,rfl,rfl⟩
 case round =>
  obtain ⟨k,hk,rfl,rfl⟩:=hrel
  have hn:=sumL_lt32 r s (t.data.toList.take k) hs hr
  by_cases hlt:k<t.size
  ·have HS:Hid (Fcs.sumL r s (t.data.toList.take (k+1))=Fcs.stp r 8 (Fcs.sumL r s (t.data.toList.take k) ^^^ t[k].toNat)):=by
    refine hide ?_
    rw [take_snoc t k hlt,Fcs.sumL_snoc]
   generalize Fcs.sumL r s (t.data.toList.take k)=n at *
   have hb:t[k].toNat<256:=t[k].toNat_lt
   have hx:=xorb_u64 n t[k].toNat hn hb
   have hm:=xorb_lt n t[k].toNat hn hb
   go_wp2
   clear hx hb
   generalize n ^^^ t[k].toNat=m at *
   go_loop [0,8] (fun x i=>∃ (j:Nat),j≤8∧i=.int .i64 j∧x=.int .u64 (Fcs.stp r j m:Nat)) (fun _ i=>8 - (intOf i).toNat)
   case atStart=>exact ⟨0,by omega,rfl,rfl⟩
   case round =>
    obtain ⟨j,hj,rfl,rfl⟩:=hrel
    have hq:Fcs.stp r j m<4294967296:=stp_lt_u32 r m j hm hr
    have HT:Hid (Fcs.stp r (j+1) m=Fcs.step r (Fcs.stp r j m)):=hide rfl
    generalize hg:Fcs.stp r j m=q at *
    have HG:=hide hg
    clear hg
    by_cases hl8:j<8
    ·by_cases hodd:q % 2=1
     ·have hb:(bits .and .u64 (q:Int) 1 == 1)=true:=by rw [and1_u64 q hq,hodd];rfl
      have HB:=hide hodd
      clear hodd
      go_wp2
      go_round
      case rel=>exact ⟨j+1,by omega,by go_num,by rw [uh HT,xor2_u64 q r hq hr,Fcs.step,if_pos (uh HB)]⟩
      case measure=>simp [intOf];omega
     ·have hb:(bits .and .u64 (q:Int) 1 == 1)=false:=by
       rw [and1_u64 q hq,show q % 2=0 by omega];rfl
      have HB:=hide hodd
      clear hodd
      go_wp2
      go_round
      case rel=>exact ⟨j+1,by omega,by go_num,by rw [uh HT,Fcs.step,if_neg (uh HB)];rfl⟩
      case measure=>simp [intOf];omega
    ·have e8:j=8:=by omega
     have HK:=hide e8
     clear e8
     go_wp2
     go_round
     case rel=>exact ⟨k+1,by omega,by go_num,by rw [uh HS,← uh HG,uh HK]⟩
     case measure=>simp [intOf];omega
  ·go_wp2
   go_ret
   exact ⟨ret_int (by rw [List.take_of_length_le (by simp;omega)]),rfl⟩
end Go.Proofs.YtkcghhkkepndnaaGreatDoor
namespace Go.Proofs.YtkcghhkkepndnaaGreatDoor.Pp
def ok (x:Int):Bool:=decide (0≤x∧x≤65535∧x % 2=1∧x / 256 % 2=0)
theorem ok_get {x:Int} (h:ok x=true):∃ k:Nat,x=k∧k<65536∧k % 2=1∧k / 256 % 2=0:=by
 have h':=of_decide_eq_true h
 exact ⟨x.toNat,by omega,by omega,by omega,by omega⟩
theorem ok_nat {k:Nat} (h1:k<65536) (h2:k % 2=1) (h3:k / 256 % 2=0):ok (k:Int)=true:=decide_eq_true (by omega)
def head (k:Nat) (a p:Bool):List UInt8 :=
 (if k=49185∨a=false then [0xff,3] else []) ++ (if k=49185∨p=false∨255<k then [UInt8.ofNat (k / 256),UInt8.ofNat k] else [UInt8.ofNat k])
theorem head_len (k:Nat) (a p:Bool):1≤(head k a p).length∧(head k a p).length≤4:=by
 unfold head
 split<;>split<;>simp
def pack (x:Int) (l:List UInt8) (a p:Bool):List UInt8 :=
 if l.length≤8000∧ok x=true then (if (head x.toNat a p).length+l.length≤8000 then head x.toNat a p ++ l else []) else []
def rest:List UInt8→List UInt8
 | []=>[]
 | [c]=>[c]
 | c :: d :: r=>if c=0xff∧d=3 then r else c :: d :: r
structure Out where
 proto:Int
 text:List UInt8
 code:Int
deriving DecidableEq
def read:List UInt8→Out
 | []=>⟨0,[],4⟩
 | [c]=>if c.toNat % 2=1 then ⟨c.toNat,[],0⟩ else ⟨0,[],4⟩
 | c :: d :: r=>if c.toNat % 2=1 then ⟨c.toNat,d :: r,0⟩ else if d.toNat % 2=1 then ⟨(256*c.toNat+d.toNat:Nat),r,0⟩ else ⟨0,[],3⟩
def unpack (l:List UInt8):Out:=if l.length≤8000 then read (rest l) else ⟨0,[],2⟩
theorem rest_len (l:List UInt8):(rest l).length≤l.length:=by
 rcases l with _ | ⟨c,_ | ⟨d,r⟩⟩
 ·exact Nat.le_refl _
 ·exact Nat.le_refl _
 ·rw [show rest (c :: d :: r)=(if c=0xff∧d=3 then r else c :: d :: r) from rfl]
  split
  ·simp;omega
  ·exact Nat.le_refl _
theorem read_one {k:Nat} (hk:k<256) (h2:k % 2=1) (l:List UInt8):read (UInt8.ofNat k :: l)=⟨k,l,0⟩:=by
 have hn:(UInt8.ofNat k).toNat=k:=by simp;omega
 rcases l with _ | ⟨d,r⟩
 ·simp only [read,hn];rw [if_pos h2]
 ·simp only [read,hn];rw [if_pos h2]
theorem read_two {k:Nat} (hk:k<65536) (h2:k % 2=1) (h3:k / 256 % 2=0) (l:List UInt8):read (UInt8.ofNat (k / 256) :: UInt8.ofNat k :: l)=⟨k,l,0⟩:=by
 have hn:(UInt8.ofNat (k / 256)).toNat=k / 256:=by simp;omega
 have hm:(UInt8.ofNat k).toNat=k % 256:=by simp
 simp only [read,hn,hm]
 rw [if_neg (by omega),if_pos (by omega)]
 congr 1
 omega
theorem rest_front (l:List UInt8):rest (0xff :: 3 :: l)=l:=by simp [rest]
theorem rest_even {c:UInt8} (h:c.toNat % 2=0) (l:List UInt8):rest (c :: l)=c :: l:=by
 rcases l with _ | ⟨d,r⟩
 ·rfl
 ·rw [show rest (c :: d :: r)=(if c=0xff∧d=3 then r else c :: d :: r) from rfl,if_neg]
  rintro ⟨rfl,_⟩
  exact absurd h (by decide)
theorem back (x:Int) (l:List UInt8) (a p:Bool) (h:pack x l a p≠[]) (ho:¬ (a=true∧x=255∧p=true∧∃ r,l=3 :: r)):unpack (pack x l a p)=⟨x,l,0⟩:=by
 unfold pack at h ⊢
 split at h
 ·rename_i h1
  rw [if_pos h1]
  split at h
  ·rename_i h4
   rw [if_pos h4]
   obtain ⟨k,rfl,hk,h2,h3⟩:=ok_get h1.2
   rw [Int.toNat_natCast] at h4 ⊢
   unfold unpack
   rw [if_pos (by rw [List.length_append];exact h4)]
   have hn:(UInt8.ofNat (k / 256)).toNat=k / 256:=by simp;omega
   unfold head
   by_cases c1:k=49185∨a=false
   ·rw [if_pos c1]
    by_cases c2:k=49185∨p=false∨255<k
    ·rw [if_pos c2]
     exact (congrArg read (rest_front _)).trans (read_two hk h2 h3 l)
    ·rw [if_neg c2]
     exact (congrArg read (rest_front _)).trans (read_one (by omega) h2 l)
   ·rw [if_neg c1]
    by_cases c2:k=49185∨p=false∨255<k
    ·rw [if_pos c2]
     exact (congrArg read (rest_even (by rw [hn];exact h3) _)).trans (read_two hk h2 h3 l)
    ·rw [if_neg c2]
     have hr:rest (UInt8.ofNat k :: l)=UInt8.ofNat k :: l:=by
      rcases l with _ | ⟨d,r⟩
      ·rfl
      ·rw [show rest (UInt8.ofNat k :: d :: r)=(if UInt8.ofNat k=0xff∧d=3 then r else UInt8.ofNat k :: d :: r) from rfl,if_neg]
       rintro ⟨e1,rfl⟩
       have e2:=congrArg UInt8.toNat e1
       rw [show (UInt8.ofNat k).toNat=k by simp;omega,show (UInt8.toNat 255)=255 from rfl] at e2
       refine ho ⟨?_,by rw [e2];rfl,?_,r,rfl⟩
       ·cases a
        ·exact absurd (Or.inr rfl) c1
        ·rfl
       ·cases p
        ·exact absurd (Or.inr (Or.inl rfl)) c2
        ·rfl
     exact (congrArg read hr).trans (read_one (by omega) h2 l)
  ·exact absurd rfl h
 ·exact absurd rfl h
end Go.Proofs.YtkcghhkkepndnaaGreatDoor.Pp
namespace Go.Proofs.YtkcghhkkepndnaaGreatDoor
open Go.RowKit
def recOf (fn:FuncId) (tmps:Array Value) (ps:Array Tmp) (assign body:Code) (D:Nat) (st:LoopState):Loop:={ state:=st,pending:=none,fn:=fn,tmps:=tmps,params:=ps,assign:=assign,body:=body,defers:=D }
structure RecAt (l:Nat) (r:LoopState→Loop) (D:Nat) (st:LoopState) (W:World):Prop where
 lp:W.heap[l]?=some (.loop (r st))
 df:W.heap[D]?=some (.deferred (some []))
theorem RecAt.keep {l D B:Nat} {r:LoopState→Loop} {st:LoopState} {W W':World} (h:RecAt l r D st W) (k:KeepsFrom B W W') (h1:B≤l) (h2:B≤D):RecAt l r D st W' :=
 ⟨k.same _ _ h1 h.lp rfl,k.same _ _ h2 h.df rfl⟩
theorem RecAt.ne {l D:Nat} {r:LoopState→Loop} {st:LoopState} {W:World} (h:RecAt l r D st W):D≠l:=fun e=>by
 have:=h.lp
 rw [← e,h.df] at this
 cases this
theorem RecAt.put {l D:Nat} {r:LoopState→Loop} {st:LoopState} {W:World} (h:RecAt l r D st W) (st':LoopState):RecAt l r D st' (W.putObj l (.loop (r st'))) :=
 ⟨World.putObj_heap_same (Array.getElem?_eq_some_iff.1 h.lp).1,(World.putObj_heap_other h.ne).trans h.df⟩
theorem yield_of {P:Program} {m l D B:Nat} {fn:FuncId} {tmps:Array Value} {ps:Array Tmp} {assign body:Code} {W:World} {x:Value}
  (hr:RecAt l (recOf fn tmps ps assign body D) D .ready W) (hps:ps.size=1) (hl:B≤l) (hD:B≤D) {J:World→Prop}
  (hJ:∀ V r o,V.heap[l]?=some (.loop r)→J V→J (V.putObj l (.loop o)))
  (h:assign.wpIn (Fence.wide.inRound l) m P (Exit.then (fun a1 W1=>KeepsFrom B W W1∧∀ W2,W2=W1.putObj l (.loop (recOf fn tmps ps assign body D .busy))→RecAt l (recOf fn tmps ps assign body D) D .busy W2 →
   body.wpIn (Fence.wide.inRound l) m P (fun e _ W'=>e=.normal∧KeepsFrom B W2 W'∧J W') a1 W2) (fun _ _ _=>False))
   { tmps:=(ps.zip #[x]).foldl (fun t (p,v)=>t.setIfInBounds p v) tmps,defers:=[] } W) :
  YieldAt Fence.wide m P l #[x] W fun e W'=>e=.returned (.bool true)∧J W'∧RecAt l (recOf fn tmps ps assign body D) D .ready W':=by
 refine ⟨fn,_,assign,body,run_yield (P:=P) (args:=#[x]) hr.lp (by rw [show (recOf fn tmps ps assign body D .ready).params=ps from rfl,hps];rfl),roundIn_of_wpIn trivial (wpIn_mono h ?_)⟩
 rintro e a1 W1 he
 cases e with
 | normal =>
  obtain ⟨hk,hb⟩:=he
  have r1:=hr.keep hk hl hD
  refine ⟨_,run_beginRound r1.lp rfl,wpIn_mono (hb _ rfl (r1.put .busy)) ?_⟩
  rintro e a2 W3 ⟨rfl,k3,j3⟩
  have r3:=(r1.put .busy).keep k3 hl hD
  exact ⟨_,_,run_endRound none r3.lp,rfl,hJ _ _ _ r3.lp j3,r3.put .ready⟩
 | _=>exact he.elim
theorem wp_range {P:Program} {n:Nat} {g:Operand} {ps:Array Tmp} {assign body:Code} {Q:Exit→Act→World→Prop} {a:Act} {w:World} {gf:Nat} {lb:Array Value}
  (hg:a.eval g=.func (.func gf) #[] lb) (eg:∀ args w,(callFunc gf args).run P w=.ok (.enter gf args) w) {J:World→Prop}
  (hJ:∀ V l r o,w.heap.size≤l→V.heap[l]?=some (.loop r)→J V→J (V.putObj l (.loop o)))
  (hi:∀ fn l D W1 R,R=recOf fn a.tmps ps assign body D→w.heap.size≤l→w.heap.size≤D→Below w.heap.size w W1→W1.heap.size=w.heap.size+2→RecAt l R D .ready W1 →
   CallsIn Fence.wide (n - 1) P gf (#[.func (.yield l) #[] #[]] ++ lb) W1 fun e W'=>(∃ v,e=.returned v)∧J W'∧RecAt l R D .ready W')
  (hd:∀ D W,w.heap.size≤D→J W→W.heap[D]?=some (.deferred (some []))→Q .normal { a with defers:={ target:=.collected D,args:=#[] } :: a.defers } W) :
  (Code.rangeFunc g ps assign body).wpIn Fence.wide n P Q a w:=by
 refine wpIn_rangeFunc ?_
 intro fn _
 have hen:=run_enterLoop_outer (P:=P) (w:=w) fn a.tmps ps assign body
 obtain ⟨W1,hW1⟩:∃ W1,(w.alloc (.deferred (some []))).alloc (.loop (recOf fn a.tmps ps assign body w.heap.size .ready))=W1:=⟨_,rfl⟩
 have hR:RecAt (w.heap.size+1) (recOf fn a.tmps ps assign body w.heap.size) w.heap.size .ready W1:=by
  rw [← hW1]
  refine ⟨?_,(Below.heap_alloc _ _ _ (by simp)).trans (World.alloc_heap_new w _)⟩
  have:=World.alloc_heap_new (w.alloc (.deferred (some []))) (.loop (recOf fn a.tmps ps assign body w.heap.size .ready))
  rwa [World.size_alloc] at this
 have hb:Below w.heap.size w W1:=by rw [← hW1];exact ((Below.refl _ w).alloc (Nat.le_refl _) _).alloc (by simp) _
 have hz:W1.heap.size=w.heap.size+2:=by rw [← hW1];simp
 have hc:=hi fn (w.heap.size+1) w.heap.size W1 _ rfl (Nat.le_succ _) (Nat.le_refl _) hb hz hR
 rw [show Fence.wide.round=none from rfl]
 clear hi hb hz hR
 refine ⟨w.heap.size+1,[{ target:=.collected w.heap.size,args:=#[] }],W1,{ target:=.fn (.func gf) lb,args:=#[.func (.yield (w.heap.size+1)) #[] #[]] },W1,gf,#[.func (.yield (w.heap.size+1)) #[] #[]] ++ lb,W1,?_,?_,fun _ _=>trivial,?_,fun h=>(by cases h),?_⟩
 ·rw [← hW1];exact hen
 ·simp only [resolve,hg]
  simp [go_sem]
 ·simp [invoke,go_sem,eg]
 ·refine hc.mono ?_
  rintro e W2 ⟨⟨v,rfl⟩,hj,r2⟩
  exact ⟨none,_,run_endLoop r2.lp (by show LoopState.ready≠.busy;simp),hd _ _ (Nat.le_refl _) (hJ _ _ _ _ (Nat.le_succ _) r2.lp hj) ((World.putObj_heap_other r2.ne).trans r2.df)⟩
def icells (l:List Int):List Value:=l.map (Value.int .i64)
theorem icells_get (l:List Int) (i:Nat) (t:Int) (h:l[i]?=some t):(icells l)[i]?=some (.int .i64 t):=by simp [icells,h]
theorem iinfo:∃ i,Tryz.prog.info? 2=some i∧i.zero=some (.int .i64 0)∧i.size=1∧i.bytes=8:=by
 have h:(Tryz.prog.info? 2).map (fun i=>(i.zero,i.size,i.bytes))=some (some (.int .i64 0),1,8):=by kernel_rfl
 obtain ⟨i,hi,hzz⟩:=Option.map_eq_some_iff.1 h
 simp only [Prod.mk.injEq] at hzz
 exact ⟨i,hi,hzz.1,hzz.2.1,hzz.2.2⟩
def HoldsI (w:World) (v:Value) (L:List Int):Prop :=
 (∃ ad cp,v=.slice ad 0 cp∧L=[])∨∃ g cp cur,v=.slice (some ⟨g,0,none⟩) L.length cp∧w.heap[g]?=some (.cells cur 2)∧L.length≤cur.size∧∀ j,j<L.length→cur[j]?=(icells L)[j]?
theorem HoldsI.own {w:World} {base:Nat} {v:Value} {L:List Int} (h:w.ownsRow base 2 1 v L.length (icells L)):HoldsI w v L:=by
 rcases h.2 with ⟨h1,h2⟩ | ⟨g,cap,cur,h1,_,h3,h4,_,h6,h7⟩
 ·exact Or.inl ⟨_,_,h1,List.eq_nil_of_length_eq_zero h2⟩
 ·refine Or.inr ⟨g,cap,cur,h1,h3,by rw [h6];omega,fun j hj=>?_⟩
  rw [← h7,List.getElem?_take,if_pos (by omega),Array.getElem?_toList]
theorem HoldsI.below {n:Nat} {w w':World} {v:Value} {L:List Int} (h:HoldsI w v L) (hb:Below n w w') (hn:n=w.heap.size):HoldsI w' v L:=by
 subst hn
 exact h.imp id fun ⟨g,cp,cur,h1,h2,h3⟩=>⟨g,cp,cur,h1,(hb.block g (Array.getElem?_eq_some_iff.1 h2).1).trans h2,h3⟩
theorem HoldsI.form {w:World} {v:Value} {L:List Int} (h:HoldsI w v L):∃ ad cp,v=.slice ad L.length cp:=by
 rcases h with ⟨ad,cp,h1,h2⟩ | ⟨g,cp,cur,h1,_⟩
 ·exact ⟨ad,cp,by rw [h1,h2];rfl⟩
 ·exact ⟨_,_,h1⟩
end Go.Proofs.YtkcghhkkepndnaaGreatDoor
