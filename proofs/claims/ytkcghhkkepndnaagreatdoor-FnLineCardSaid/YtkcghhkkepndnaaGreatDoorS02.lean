/- The table of 256 of a check sum, of both widths: the walk of sumTable: it hands back the array whose cell j is eight shifts of j; no condition but that the rule fits its kind. The model's own sum (l01Sum of the verifier's package spec): it answers the sum of the bytes, where sum and rule are below 2 to the 32; the world stays as it was. A sum behind a text, of both widths: the walk of sumBehind, over the contracts of sumTable and of the library's decoder: it answers the sum of the text's bytes; what lay in memory stands; under the library's two tables as they are laid. A number's bytes, the lowest first: the walk of lowestFirst at two bytes and at four; what lay in memory stands. Tail, the program's and the model's: of a text of at most 8000 bytes the sum's bits turned, the lowest byte first; what lay in memory stands; under the library's two tables as they are laid. Good, the program's: does a text of at most 8000 bytes, and of at least a Tail's, end with the Tail of what is ahead; what lay in memory stands; under the library's two tables as they are laid. The drawer of the verifier's package spec (l01Src): a number below a bound is drawn, whatever the bytes it draws from; only the drawer itself is turned in memory. -/
import Derived.Test.YtkcghhkkepndnaaGreatDoorS00
import Derived.Deep.WholeRow
import Derived.Laws.ResultCell
import Derived.Deep.LoopGhost
import Derived.Test.YtkcghhkkepndnaaGreatDoorS01
import Derived.Test.YtkcghhkkepndnaaGreatDoorDec
import Derived.Lib.OthersKept
import Derived.Lib.RuneCountTail
import Derived.Deep.OwnRows
import Derived.Deep.RegionHeld
import Derived.Deep.QuietTactic
import Derived.BigQuiet
import Derived.Test.YtkcghhkkepndnaaGreatDoorShW
namespace Go.Proofs.YtkcghhkkepndnaaGreatDoor
open Go.RowKit

theorem setRow_alloc_second (w:World) (c c':Array Value) (t:TypeId) (o:Obj) :
  ((w.alloc (.cells c t)).alloc o).setRow w.heap.size c'=(w.alloc (.cells c' t)).alloc o:=by
 simp only [World.setRow,World.alloc]
 congr 1
 apply Array.ext_getElem?
 intro i
 rw [Array.getElem?_modify]
 by_cases h:w.heap.size=i
 ·subst h
  simp [Array.getElem?_push]
 ·have h':¬ i=w.heap.size:=fun e=>h e.symm
  simp [h,h',Array.getElem?_push]
theorem heap_alloc_second (w:World) (o o':Obj):((w.alloc o).alloc o').heap[w.heap.size]?=some o:=by
 show ((w.heap.push o).push o')[w.heap.size]?=some o
 simp [Array.getElem?_push]
theorem heap_alloc_two (w:World) (o o':Obj):((w.alloc o).alloc o').heap[w.heap.size+1]?=some o':=by
 have:=heap_alloc_last (w.alloc o) o'
 have e:(w.alloc o).heap.size=w.heap.size+1:=by simp
 rw [e] at this
 exact this

theorem results_cell {fn:Func} {p:Tmp} {ty:TypeId} (h:fn.results=#[.cell p ty]) (tmps:Array Value) (P:Program) (w:World) :
  (results fn tmps).run P w=((asAddr (tmps.getD p undef)).run P w).andThen fun a w₁=>(loadVar ty a).run P w₁:=by
 simp only [results,h]
 simp [Sem.run_bind,Result.andThen]

theorem wpList_load_row {P:Program} (w:World) {ops:Array Oper} {rest:List Oper} {o:Oper} {a:Act} {Q:Exit→Act→World→Prop}
  (hg:o.guard=none) (t:TypeId) (p:Operand) (hop:o.op=Op.load t p) (g:Nat) (c:Array Value) (n:Nat) (e:TypeId)
  (hp:a.eval p=.pointer (some ⟨g,0,none⟩)) (hh:w.heap[g]?=some (.cells c t (0,0))) (hu:P.underlying t=some (.array n e))
  (hi:(P.info? t).map (·.size)=some c.size) (hK:wpList P ops Q rest (a.put o.dst (.agg c)) w):wpList P ops Q (o :: rest) a w:=by
 refine wpList_plain hg fun K hK'=>?_
 have hrun:(Instr.loadAt t (.pointer (some ⟨g,0,none⟩))).run P w=.ok (.agg c) w:=by
  simp only [Instr.loadAt,Instr.sureAddr,Sem.run_bind,Sem.run_pure,Result.andThen]
  exact run_loadVar_row w g t t c (0,0) _ hh hu rfl hi
 unfold Oper.wp
 simp [execOp,hop,hp,hrun,Result.andThen]
 exact hK' _ _ hK
theorem wpList_store_row {P:Program} (w:World) {ops:Array Oper} {rest:List Oper} {o:Oper} {a:Act} {Q:Exit→Act→World→Prop}
  (hg:o.guard=none) (t:TypeId) (p x:Operand) (hop:o.op=Op.store t p x) (g:Nat) (old c:Array Value)
  (hp:a.eval p=.pointer (some ⟨g,0,none⟩)) (hx:a.eval x=.agg c) (hh:w.heap[g]?=some (.cells old t (0,0)))
  (hi:(P.info? t).map (·.size)=some c.size) (ho:old.size=c.size) (h1:c.all (·.oneCell')=true)
  (hK:wpList P ops Q rest (a.put o.dst undef) (w.setRow g c)):wpList P ops Q (o :: rest) a w:=by
 refine wpList_plain hg fun K hK'=>?_
 have hrun:(Instr.storeAt t (.pointer (some ⟨g,0,none⟩)) (.agg c)).run P w=.ok () (w.setRow g c):=by
  simp only [Instr.storeAt,Instr.sureAddr,Sem.run_bind,Sem.run_pure,Result.andThen]
  exact run_storeVar_row w g t t old c hh hi ho h1
 unfold Oper.wp
 simp [execOp,hop,hp,hx,hrun,Result.andThen]
 exact hK' _ _ hK

def tabC (K:IntKind) (r k:Nat):Array Value:=(Array.range 256).map fun j=>.int K (if j<k then (Fcs.stp r 8 j:Nat) else 0)
theorem tabC_size (K:IntKind) (r k:Nat):(tabC K r k).size=256:=by simp [tabC]
theorem tabC_zero (K:IntKind) (r:Nat):tabC K r 0=Array.replicate 256 (.int K 0):=by
 apply Array.ext_getElem?
 intro i
 simp only [tabC,Array.getElem?_map,Array.getElem?_range,Array.getElem?_replicate]
 by_cases h:i<256<;>simp [h]
theorem tabC_succ (K:IntKind) (r k:Nat) (h:k<256):(tabC K r k).setIfInBounds k (.int K (Fcs.stp r 8 k:Nat))=tabC K r (k+1):=by
 apply Array.ext_getElem?
 intro i
 rw [Array.getElem?_setIfInBounds,tabC_size]
 simp only [tabC,Array.getElem?_map,Array.getElem?_range]
 by_cases hi:k=i
 ·subst hi
  simp [h]
 ·by_cases h2:i<256
  ·by_cases h3:i<k
   ·have:i<k+1:=by omega
    simp [hi,h2,h3,this]
   ·have:¬ i<k+1:=by omega
    simp [hi,h2,h3,this]
  ·simp [hi,h2]
theorem tabC_at (K:IntKind) (r j:Nat) (h:j<256):(tabC K r 256)[j]?=some (.int K (Fcs.stp r 8 j:Nat)):=by
 simp [tabC,h]
theorem tabC_one (K:IntKind) (r k:Nat):(tabC K r k).all (·.oneCell')=true:=by
 rw [Array.all_eq_true]
 intro i hi
 simp [tabC,Value.oneCell']

theorem tabInfo_u16:(Tryz.prog.info? 179).map (fun i=>(i.zero,i.size))=some (some (.agg (Array.replicate 256 (.int .u16 0))),256):=by kernel_rfl

set_option maxHeartbeats 1000000 in
set_option maxRecDepth 100000 in
theorem table_u16 (r:Nat) (w:World) (hr:r<65536) :
  Calls Tryz.prog 140 #[.int .u16 r] w fun e w'=>e=.returned (.agg (tabC .u16 r 256))∧w'=(w.alloc (.cells (tabC .u16 r 256) 179)).alloc (.cells (tabC .u16 r 256) 179):=by
 have hv:=(zero_of_info tabInfo_u16).1
 have hi:=(zero_of_info tabInfo_u16).2
 go_enter Tryz.func140,Tryz.ntmps140
 go_wp2_with fail
 rw [← tabC_zero .u16 r]
 generalize hc0:tabC .u16 r 0=c0
 have hs0:c0.size=256:=by rw [← hc0,tabC_size]
 have HC0:=hide hc0
 go_loopw [5] (fun i wr=>∃ k:Nat,k≤256∧i=.int .i64 k∧wr=(w.alloc (.cells c0 179)).alloc (.cells (tabC .u16 r k) 179)) (fun i _=>256 - (intOf i).toNat)
 case atStart=>exact ⟨0,by omega,rfl,by rw [uh HC0]⟩
 case round =>
  obtain ⟨k,hk,rfl,rfl⟩:=hrel
  clear hc0
  by_cases hlt:k<256
  ·have hlt':(k:Int)<256:=by omega
   have hsz:=tabC_size .u16 r k
   go_wp2_with fail
   refine (shift_u16 k r _ (by omega) hr).mono ?_
   rintro e w' ⟨rfl,rfl⟩
   go_wp2
   go_roundw
   case rel=>exact ⟨k+1,by omega,by go_num,by rw [← tabC_succ .u16 r k hlt]⟩
   case measure=>simp [intOf];omega
  ·obtain rfl:k=256:=by omega
   have hsz:=tabC_size .u16 r 256
   have hld:=run_loadVar_row (P:=Tryz.prog) ((w.alloc (.cells (tabC .u16 r 256) 179)).alloc (.cells (tabC .u16 r 256) 179)) w.heap.size 179 179 (tabC .u16 r 256) (0,0) _ (heap_alloc_second w _ _) Tryz.underlying179 rfl (by rw [hsz];exact hi)
   go_wp2_with (first
    | (refine wpList_load_row _ rfl 179 _ rfl (w.heap.size+1) (tabC .u16 r 256) 256 _ rfl (heap_alloc_two w _ _) Tryz.underlying179 (by rw [hsz];exact hi) ?_)
    | (refine wpList_store_row _ rfl 179 _ _ rfl w.heap.size c0 (tabC .u16 r 256) rfl rfl (heap_alloc_second w _ _) (by rw [hsz];exact hi) (by rw [hsz,hs0]) (tabC_one _ _ _) ?_;rw [setRow_alloc_second]))
   refine bodyPost_ret (v:=.agg (tabC .u16 r 256)) ?_ rfl ⟨rfl,rfl⟩
   rw [results_cell rfl]
   simp [asAddr,Result.andThen,Act.put,hld]
theorem tabInfo_u32:(Tryz.prog.info? 175).map (fun i=>(i.zero,i.size))=some (some (.agg (Array.replicate 256 (.int .u32 0))),256):=by kernel_rfl

set_option maxHeartbeats 1000000 in
set_option maxRecDepth 100000 in
theorem table_u32 (r:Nat) (w:World) (hr:r<4294967296) :
  Calls Tryz.prog 138 #[.int .u32 r] w fun e w'=>e=.returned (.agg (tabC .u32 r 256))∧w'=(w.alloc (.cells (tabC .u32 r 256) 175)).alloc (.cells (tabC .u32 r 256) 175):=by
 have hv:=(zero_of_info tabInfo_u32).1
 have hi:=(zero_of_info tabInfo_u32).2
 go_enter Tryz.func138,Tryz.ntmps138
 go_wp2_with fail
 rw [← tabC_zero .u32 r]
 generalize hc0:tabC .u32 r 0=c0
 have hs0:c0.size=256:=by rw [← hc0,tabC_size]
 have HC0:=hide hc0
 go_loopw [5] (fun i wr=>∃ k:Nat,k≤256∧i=.int .i64 k∧wr=(w.alloc (.cells c0 175)).alloc (.cells (tabC .u32 r k) 175)) (fun i _=>256 - (intOf i).toNat)
 case atStart=>exact ⟨0,by omega,rfl,by rw [uh HC0]⟩
 case round =>
  obtain ⟨k,hk,rfl,rfl⟩:=hrel
  clear hc0
  by_cases hlt:k<256
  ·have hlt':(k:Int)<256:=by omega
   have hsz:=tabC_size .u32 r k
   go_wp2_with fail
   refine (shift_u32 k r _ (by omega) hr).mono ?_
   rintro e w' ⟨rfl,rfl⟩
   go_wp2
   go_roundw
   case rel=>exact ⟨k+1,by omega,by go_num,by rw [← tabC_succ .u32 r k hlt]⟩
   case measure=>simp [intOf];omega
  ·obtain rfl:k=256:=by omega
   have hsz:=tabC_size .u32 r 256
   have hld:=run_loadVar_row (P:=Tryz.prog) ((w.alloc (.cells (tabC .u32 r 256) 175)).alloc (.cells (tabC .u32 r 256) 175)) w.heap.size 175 175 (tabC .u32 r 256) (0,0) _ (heap_alloc_second w _ _) Tryz.underlying175 rfl (by rw [hsz];exact hi)
   go_wp2_with (first
    | (refine wpList_load_row _ rfl 175 _ rfl (w.heap.size+1) (tabC .u32 r 256) 256 _ rfl (heap_alloc_two w _ _) Tryz.underlying175 (by rw [hsz];exact hi) ?_)
    | (refine wpList_store_row _ rfl 175 _ _ rfl w.heap.size c0 (tabC .u32 r 256) rfl rfl (heap_alloc_second w _ _) (by rw [hsz];exact hi) (by rw [hsz,hs0]) (tabC_one _ _ _) ?_;rw [setRow_alloc_second]))
   refine bodyPost_ret (v:=.agg (tabC .u32 r 256)) ?_ rfl ⟨rfl,rfl⟩
   rw [results_cell rfl]
   simp [asAddr,Result.andThen,Act.put,hld]

theorem and1_u64 (n:Nat) (h:n<4294967296):bits .and .u64 (n:Int) 1=((n % 2:Nat):Int):=by
 have:=u64_and_nat n 1 (by omega) (by decide)
 rw [nat_mask1] at this
 exact this
theorem xor2_u64 (n r:Nat) (h:n<4294967296) (hr:r<4294967296):bits .xor .u64 ((n:Int) / 2) (r:Int)=((n / 2 ^^^ r:Nat):Int):=by
 have:=u64_xor_nat (n / 2) r (by omega) (by omega)
 rw [← this]
 rfl
theorem xorb_u64 (n b:Nat) (h:n<4294967296) (hb:b<256):bits .xor .u64 (n:Int) (b:Int)=((n ^^^ b:Nat):Int) :=
 u64_xor_nat n b (by omega) (by omega)
theorem xorb_lt (n b:Nat) (h:n<4294967296) (hb:b<256):n ^^^ b<4294967296:=Nat.xor_lt_two_pow (n:=32) h (by omega)
theorem sumL_lt32 (r s:Nat) (l:List UInt8) (hs:s<4294967296) (hr:r<4294967296):Fcs.sumL r s l<4294967296:=Fcs.sumL_lt (n:=32) (by decide) hr l s hs
theorem sumL_lt16 (r s:Nat) (l:List UInt8) (hs:s<65536) (hr:r<65536):Fcs.sumL r s l<65536:=Fcs.sumL_lt (n:=16) (by decide) hr l s hs

set_option maxHeartbeats 1000000 in
theorem modelSum (s r:Nat) (t:ByteArray) (w:World) (hs:s<4294967296) (hr:r<4294967296) (ht:t.size≤maxLen) :
  Calls Tryz.prog 126 #[.int .u64 s,.string t,.int .u64 r] w fun e w'=>e=.returned (.int .u64 (Fcs.sumL r s t.data.toList:Nat))∧w'=w:=by
 unfold maxLen at ht
 go_enter Tryz.func126,Tryz.ntmps126
 go_wp2
 go_loop [0,7] (fun x i=>∃ (k:Nat),k≤t.size∧i=.int .i64 k∧x=.int .u64 (Fcs.sumL r s (t.data.toList.take k):Nat)) (fun _ i=>t.size - (intOf i).toNat)
 case atStart=>exact ⟨0,Nat.zero_le _,rfl,rfl⟩
 case round =>
  obtain ⟨k,hk,rfl,rfl⟩:=hrel
  have hn:=sumL_lt32 r s (t.data.toList.take k) hs hr
  by_cases hlt:k<t.size
  ·have HS:Hid (Fcs.sumL r s (t.data.toList.take (k+1))=Fcs.stp r 8 (Fcs.sumL r s (t.data.toList.take k) ^^^ t[k].toNat)):=by
    refine hide ?_
    rw [take_snoc t k hlt,Fcs.sumL_snoc]
   generalize Fcs.sumL r s (t.data.toList.take k)=n at *
   have hb:t[k].toNat<256:=t[k].toNat_lt
   have hx:=xorb_u64 n t[k].toNat hn hb
   have hm:=xorb_lt n t[k].toNat hn hb
   go_wp2
   clear hx hb
   generalize n ^^^ t[k].toNat=m at *
   go_loop [0,8] (fun x i=>∃ (j:Nat),j≤8∧i=.int .i64 j∧x=.int .u64 (Fcs.stp r j m:Nat)) (fun _ i=>8 - (intOf i).toNat)
   case atStart=>exact ⟨0,by omega,rfl,rfl⟩
   case round =>
    obtain ⟨j,hj,rfl,rfl⟩:=hrel
    have hq:Fcs.stp r j m<4294967296:=stp_lt_u32 r m j hm hr
    have HT:Hid (Fcs.stp r (j+1) m=Fcs.step r (Fcs.stp r j m)):=hide rfl
    generalize hg:Fcs.stp r j m=q at *
    have HG:=hide hg
    clear hg
    by_cases hl8:j<8
    ·by_cases hodd:q % 2=1
     ·have hb:(bits .and .u64 (q:Int) 1 == 1)=true:=by rw [and1_u64 q hq,hodd];rfl
      have HB:=hide hodd
      clear hodd
      go_wp2
      go_round
      case rel=>exact ⟨j+1,by omega,by go_num,by rw [uh HT,xor2_u64 q r hq hr,Fcs.step,if_pos (uh HB)]⟩
      case measure=>simp [intOf];omega
     ·have hb:(bits .and .u64 (q:Int) 1 == 1)=false:=by
       rw [and1_u64 q hq,show q % 2=0 by omega];rfl
      have HB:=hide hodd
      clear hodd
      go_wp2
      go_round
      case rel=>exact ⟨j+1,by omega,by go_num,by rw [uh HT,Fcs.step,if_neg (uh HB)];rfl⟩
      case measure=>simp [intOf];omega
    ·have e8:j=8:=by omega
     have HK:=hide e8
     clear e8
     go_wp2
     go_round
     case rel=>exact ⟨k+1,by omega,by go_num,by rw [uh HS,← uh HG,uh HK]⟩
     case measure=>simp [intOf];omega
  ·go_wp2
   go_ret
   exact ⟨ret_int (by rw [List.take_of_length_le (by simp;omega)]),rfl⟩

theorem decode (s:ByteArray) (w:World) (hT:Lib.Utf8Tabs 0 1 w) :
  Calls Tryz.prog 139 #[.string s] w fun e w'=>e=.returned (.tuple #[.int .i32 (Lib.decodeGo s).1,.int .i64 (Lib.decodeGo s).2])∧Below w.heap.size w w' :=
 Any.utf8_DecodeRuneInString Tryz.laysDec s w hT
theorem width_le (n b0 b1 b2 b3:Nat) (h:1≤n):(Lib.decodeN n b0 b1 b2 b3).2≤n:=by
 unfold Lib.decodeN
 repeat' split
 all_goals simp only []
 all_goals omega
def wid (s:ByteArray) (pos:Nat):Nat:=(Utf8.decode s pos).2
theorem wid_le (s:ByteArray) (pos:Nat) (h:pos<s.size):pos+wid s pos≤s.size:=by
 unfold wid
 rw [Lib.decode_at]
 have:=width_le (s.size - pos) (s.get! pos).toNat (s.get! (pos+1)).toNat (s.get! (pos+2)).toNat (s.get! (pos+3)).toNat (by omega)
 omega
theorem wid_pos (s:ByteArray) (pos:Nat):1≤wid s pos:=by
 unfold wid
 rw [Lib.decode_at]
 unfold Lib.decodeN
 repeat' split
 all_goals simp only []
 all_goals omega
theorem tail_wid (s:ByteArray) (pos:Nat) (h:pos<s.size):(Lib.decodeGo (s.extract pos s.size)).2=wid s pos:=by
 unfold Lib.decodeGo wid
 rw [Lib.tail_decode,if_neg (by rw [Lib.tail_size];omega),Nat.add_zero]

theorem idx_u16 (n b:Nat) (hb:b<256):bits .xor .u8 ((n:Int) % 256) (b:Int)=((n % 256 ^^^ b:Nat):Int)∧n % 256 ^^^ b<256:=by
 refine ⟨?_,Nat.xor_lt_two_pow (n:=8) (by omega) hb⟩
 have:=u8_xor_nat (n % 256) b (by omega) hb
 rw [← this]
 rfl
theorem next_u16 (r n b:Nat) (hn:n<65536) (hr:r<65536) (hb:b<256) :
  bits .xor .u16 ((n:Int) / 256) ((Fcs.stp r 8 (n % 256 ^^^ b):Nat):Int)=((Fcs.stp r 8 (n ^^^ b):Nat):Int):=by
 have hq:=stp_lt_u16 r (n % 256 ^^^ b) 8 (by have:=(idx_u16 n b hb).2;omega) hr
 rw [← Fcs.table_step r n b hb]
 have:=u16_xor_nat (n / 256) (Fcs.stp r 8 (n % 256 ^^^ b)) (by omega) hq
 rw [← this]
 rfl

set_option maxHeartbeats 1000000 in
set_option maxRecDepth 100000 in
theorem behind_u16 (s r:Nat) (t:ByteArray) (w:World) (hs:s<65536) (hr:r<65536) (ht:t.size≤maxLen)
  (hT:Lib.Utf8Tabs 0 1 w) :
  Calls Tryz.prog 132 #[.int .u16 s,.int .u16 r,.string t] w fun e w'=>e=.returned (.int .u16 (Fcs.sumL r s t.data.toList:Nat))∧Below w.heap.size w w':=by
 unfold maxLen at ht
 have hv:=(zero_of_info tabInfo_u16).1
 have hi:=(zero_of_info tabInfo_u16).2
 have hsz:=tabC_size .u16 r 256
 go_enter Tryz.func132,Tryz.ntmps132
 go_wp2_with fail
 refine (table_u16 r _ hr).mono ?_
 rintro e w1 ⟨rfl,hw1⟩
 have hb1:Below w.heap.size w w1:=by
  rw [hw1]
  exact ((Below.refl _ _).alloc (Nat.le_refl _) _).alloc (by simp) _
 clear hw1
 have hz1:w.heap.size≤w1.heap.size:=hb1.size
 go_wp2_with (first
  | (refine wpList_store_row _ rfl 179 _ _ rfl w1.heap.size (Array.replicate 256 (.int .u16 0)) (tabC .u16 r 256) rfl rfl (heap_alloc_last w1 _) (by rw [hsz];exact hi) (by rw [hsz,Array.size_replicate]) (tabC_one _ _ _) ?_;rw [World.setRow_alloc_new]))
 go_loopw [0] (fun x wr=>∃ pos:Nat,pos≤t.size∧x=.int .u16 (Fcs.sumL r s (t.data.toList.take pos):Nat)∧wr.heap[w1.heap.size+1]?=some (.stringIter t pos)∧(∀ j,j<256→wr.cell? ⟨w1.heap.size,j,none⟩=some (.int .u16 (Fcs.stp r 8 j:Nat)))∧Below w1.heap.size w1 wr) (fun _ wr=>t.size - wr.iterPos (w1.heap.size+1))
 case atStart =>
  refine ⟨0,Nat.zero_le _,rfl,?_,?_,?_⟩
  ·have:=World.iter_heap (w1.alloc (.cells (tabC .u16 r 256) 179)) t 0
   simpa using this
  ·intro j hj
   have h1:=World.cell?_of_block (w:=w1.alloc (.cells (tabC .u16 r 256) 179)) (w':=(w1.alloc (.cells (tabC .u16 r 256) 179)).iter t 0) (a:=⟨w1.heap.size,j,none⟩) (by
    simp only [World.iter]
    exact Below.heap_alloc _ _ _ (by simp))
   rw [h1,cell_of_row _ _ j (tabC .u16 r 256) 179 (0,0) (heap_alloc_last w1 _)]
   exact tabC_at .u16 r j hj
  ·exact ((Below.refl _ _).alloc (Nat.le_refl _) _).alloc (by simp) _
 case round =>
  obtain ⟨pos,hpl,rfl,hit,hcl,hbw⟩:=hrel
  have hn:Fcs.sumL r s (t.data.toList.take pos)<65536:=sumL_lt16 r s _ hs hr
  have hsz1:w1.heap.size+1<wr.heap.size:=(Array.getElem?_eq_some_iff.1 hit).1
  have HCL:=hide hcl
  clear hcl
  by_cases hp:pos<t.size
  ·have hnx:∀ ty,(Instr.next (.pointer (some ⟨w1.heap.size+1,0,none⟩)) true ty).run Tryz.prog wr=_:=fun ty=>Lib.run_next_any_at wr (w1.heap.size+1) t pos ty hit hp
   have hit2:=Lib.iterAt_heap wr (w1.heap.size+1) t pos (pos+(Utf8.decode t pos).2) hit
   have hbw2:=Lib.below_iterAt hbw (k:=w1.heap.size+1) (by omega) t (pos+(Utf8.decode t pos).2)
   have hsz2:w1.heap.size+1<(wr.iterAt (w1.heap.size+1) t (pos+(Utf8.decode t pos).2)).heap.size:=by rw [Lib.iterAt_size];omega
   generalize hw2:wr.iterAt (w1.heap.size+1) t (pos+(Utf8.decode t pos).2)=w2 at *
   have HW2:=hide hw2
   clear hw2
   have hT2:Lib.Utf8Tabs 0 1 w2:=Utf8Tabs_below hT (hb1.trans (hbw2.mono hz1))
   have HC2:Hid (∀ j,j<256→w2.cell? ⟨w1.heap.size,j,none⟩=some (.int .u16 (Fcs.stp r 8 j:Nat))):=by
    refine hide fun j hj=>?_
    rw [← uh HCL j hj,← uh HW2]
    exact World.cell?_of_block (Lib.iterAt_other wr (w1.heap.size+1) w1.heap.size t _ (by show w1.heap.size≠w1.heap.size+1;omega))
   go_wp2_with fail
   refine (decode (t.extract pos t.size) w2 hT2).mono ?_
   rintro e w3 ⟨rfl,hb3⟩
   rw [tail_wid t pos hp]
   have HC3:Hid (∀ j,j<256→w3.cell? ⟨w1.heap.size,j,none⟩=some (.int .u16 (Fcs.stp r 8 j:Nat))):=by
    refine hide fun j hj=>?_
    rw [← uh HC2 j hj]
    exact hb3.cell (p:=⟨w1.heap.size,j,none⟩) (by show w1.heap.size<w2.heap.size;omega)
   have hwl:=wid_le t pos hp
   have hwp:=wid_pos t pos
   have HD:Hid ((Utf8.decode t pos).2=wid t pos):=rfl
   generalize wid t pos=wd at *
   go_wp2
   go_loop [0,11] (fun x i=>∃ k:Nat,pos≤k∧k≤pos+wd∧i=.int .i64 k∧x=.int .u16 (Fcs.sumL r s (t.data.toList.take k):Nat)) (fun _ i=>pos+wd - (intOf i).toNat)
   case atStart=>exact ⟨pos,Nat.le_refl _,by omega,rfl,rfl⟩
   case round =>
    obtain ⟨k,hk1,hk2,rfl,rfl⟩:=hrel
    clear hn
    have hn:Fcs.sumL r s (t.data.toList.take k)<65536:=sumL_lt16 r s _ hs hr
    by_cases hlt:k<pos+wd
    ·have hkt:k<t.size:=by omega
     have HS:Hid (Fcs.sumL r s (t.data.toList.take (k+1))=Fcs.stp r 8 (Fcs.sumL r s (t.data.toList.take k) ^^^ t[k].toNat)):=by
      refine hide ?_
      rw [take_snoc t k hkt,Fcs.sumL_snoc]
     generalize Fcs.sumL r s (t.data.toList.take k)=n at *
     have hb:t[k].toNat<256:=t[k].toNat_lt
     have hx8:=idx_u16 n t[k].toNat hb
     have hx:=next_u16 r n t[k].toNat hn hr hb
     obtain ⟨hx8,hm⟩:=hx8
     have hc:=uh HC3 _ hm
     rw [← uh HS] at hx
     generalize n % 256 ^^^ t[k].toNat=m at *
     generalize hq:Fcs.sumL r s (t.data.toList.take (k+1))=q at *
     have HQ:=hide hq
     clear hq
     go_wp2
     go_round
     case rel=>exact ⟨k+1,by omega,by omega,by go_num,by rw [uh HQ]⟩
     case measure=>simp [intOf];omega
    ·obtain rfl:k=pos+wd:=by omega
     go_wp2
     go_roundw
     case rel =>
      refine ⟨pos+wd,hwl,rfl,?_,uh HC3,hbw2.trans (hb3.mono (by omega))⟩
      rw [hb3.block _ hsz2,hit2,uh HD]
     case measure =>
      have e3:w3.heap[w1.heap.size+1]?=some (.stringIter t (pos+wd)):=by rw [hb3.block _ hsz2,hit2,uh HD]
      simp only [World.iterPos,e3,hit]
      omega
  ·have hnx:∀ ty,(Instr.next (.pointer (some ⟨w1.heap.size+1,0,none⟩)) true ty).run Tryz.prog wr=_:=fun ty=>Lib.run_next_end_at wr (w1.heap.size+1) t pos ty hit hp
   go_wp2
   go_ret
   exact ⟨ret_int (by rw [List.take_of_length_le (by simp;omega)]),hb1.trans (hbw.mono hz1)⟩
theorem idx_u32 (n b:Nat) (hb:b<256):bits .xor .u8 ((n:Int) % 256) (b:Int)=((n % 256 ^^^ b:Nat):Int)∧n % 256 ^^^ b<256:=by
 refine ⟨?_,Nat.xor_lt_two_pow (n:=8) (by omega) hb⟩
 have:=u8_xor_nat (n % 256) b (by omega) hb
 rw [← this]
 rfl
theorem next_u32 (r n b:Nat) (hn:n<4294967296) (hr:r<4294967296) (hb:b<256) :
  bits .xor .u32 ((n:Int) / 256) ((Fcs.stp r 8 (n % 256 ^^^ b):Nat):Int)=((Fcs.stp r 8 (n ^^^ b):Nat):Int):=by
 have hq:=stp_lt_u32 r (n % 256 ^^^ b) 8 (by have:=(idx_u32 n b hb).2;omega) hr
 rw [← Fcs.table_step r n b hb]
 have:=u32_xor_nat (n / 256) (Fcs.stp r 8 (n % 256 ^^^ b)) (by omega) hq
 rw [← this]
 rfl

set_option maxHeartbeats 1000000 in
set_option maxRecDepth 100000 in
theorem behind_u32 (s r:Nat) (t:ByteArray) (w:World) (hs:s<4294967296) (hr:r<4294967296) (ht:t.size≤maxLen)
  (hT:Lib.Utf8Tabs 0 1 w) :
  Calls Tryz.prog 130 #[.int .u32 s,.int .u32 r,.string t] w fun e w'=>e=.returned (.int .u32 (Fcs.sumL r s t.data.toList:Nat))∧Below w.heap.size w w':=by
 unfold maxLen at ht
 have hv:=(zero_of_info tabInfo_u32).1
 have hi:=(zero_of_info tabInfo_u32).2
 have hsz:=tabC_size .u32 r 256
 go_enter Tryz.func130,Tryz.ntmps130
 go_wp2_with fail
 refine (table_u32 r _ hr).mono ?_
 rintro e w1 ⟨rfl,hw1⟩
 have hb1:Below w.heap.size w w1:=by
  rw [hw1]
  exact ((Below.refl _ _).alloc (Nat.le_refl _) _).alloc (by simp) _
 clear hw1
 have hz1:w.heap.size≤w1.heap.size:=hb1.size
 go_wp2_with (first
  | (refine wpList_store_row _ rfl 175 _ _ rfl w1.heap.size (Array.replicate 256 (.int .u32 0)) (tabC .u32 r 256) rfl rfl (heap_alloc_last w1 _) (by rw [hsz];exact hi) (by rw [hsz,Array.size_replicate]) (tabC_one _ _ _) ?_;rw [World.setRow_alloc_new]))
 go_loopw [0] (fun x wr=>∃ pos:Nat,pos≤t.size∧x=.int .u32 (Fcs.sumL r s (t.data.toList.take pos):Nat)∧wr.heap[w1.heap.size+1]?=some (.stringIter t pos)∧(∀ j,j<256→wr.cell? ⟨w1.heap.size,j,none⟩=some (.int .u32 (Fcs.stp r 8 j:Nat)))∧Below w1.heap.size w1 wr) (fun _ wr=>t.size - wr.iterPos (w1.heap.size+1))
 case atStart =>
  refine ⟨0,Nat.zero_le _,rfl,?_,?_,?_⟩
  ·have:=World.iter_heap (w1.alloc (.cells (tabC .u32 r 256) 175)) t 0
   simpa using this
  ·intro j hj
   have h1:=World.cell?_of_block (w:=w1.alloc (.cells (tabC .u32 r 256) 175)) (w':=(w1.alloc (.cells (tabC .u32 r 256) 175)).iter t 0) (a:=⟨w1.heap.size,j,none⟩) (by
    simp only [World.iter]
    exact Below.heap_alloc _ _ _ (by simp))
   rw [h1,cell_of_row _ _ j (tabC .u32 r 256) 175 (0,0) (heap_alloc_last w1 _)]
   exact tabC_at .u32 r j hj
  ·exact ((Below.refl _ _).alloc (Nat.le_refl _) _).alloc (by simp) _
 case round =>
  obtain ⟨pos,hpl,rfl,hit,hcl,hbw⟩:=hrel
  have hn:Fcs.sumL r s (t.data.toList.take pos)<4294967296:=sumL_lt32 r s _ hs hr
  have hsz1:w1.heap.size+1<wr.heap.size:=(Array.getElem?_eq_some_iff.1 hit).1
  have HCL:=hide hcl
  clear hcl
  by_cases hp:pos<t.size
  ·have hnx:∀ ty,(Instr.next (.pointer (some ⟨w1.heap.size+1,0,none⟩)) true ty).run Tryz.prog wr=_:=fun ty=>Lib.run_next_any_at wr (w1.heap.size+1) t pos ty hit hp
   have hit2:=Lib.iterAt_heap wr (w1.heap.size+1) t pos (pos+(Utf8.decode t pos).2) hit
   have hbw2:=Lib.below_iterAt hbw (k:=w1.heap.size+1) (by omega) t (pos+(Utf8.decode t pos).2)
   have hsz2:w1.heap.size+1<(wr.iterAt (w1.heap.size+1) t (pos+(Utf8.decode t pos).2)).heap.size:=by rw [Lib.iterAt_size];omega
   generalize hw2:wr.iterAt (w1.heap.size+1) t (pos+(Utf8.decode t pos).2)=w2 at *
   have HW2:=hide hw2
   clear hw2
   have hT2:Lib.Utf8Tabs 0 1 w2:=Utf8Tabs_below hT (hb1.trans (hbw2.mono hz1))
   have HC2:Hid (∀ j,j<256→w2.cell? ⟨w1.heap.size,j,none⟩=some (.int .u32 (Fcs.stp r 8 j:Nat))):=by
    refine hide fun j hj=>?_
    rw [← uh HCL j hj,← uh HW2]
    exact World.cell?_of_block (Lib.iterAt_other wr (w1.heap.size+1) w1.heap.size t _ (by show w1.heap.size≠w1.heap.size+1;omega))
   go_wp2_with fail
   refine (decode (t.extract pos t.size) w2 hT2).mono ?_
   rintro e w3 ⟨rfl,hb3⟩
   rw [tail_wid t pos hp]
   have HC3:Hid (∀ j,j<256→w3.cell? ⟨w1.heap.size,j,none⟩=some (.int .u32 (Fcs.stp r 8 j:Nat))):=by
    refine hide fun j hj=>?_
    rw [← uh HC2 j hj]
    exact hb3.cell (p:=⟨w1.heap.size,j,none⟩) (by show w1.heap.size<w2.heap.size;omega)
   have hwl:=wid_le t pos hp
   have hwp:=wid_pos t pos
   have HD:Hid ((Utf8.decode t pos).2=wid t pos):=rfl
   generalize wid t pos=wd at *
   go_wp2
   go_loop [0,11] (fun x i=>∃ k:Nat,pos≤k∧k≤pos+wd∧i=.int .i64 k∧x=.int .u32 (Fcs.sumL r s (t.data.toList.take k):Nat)) (fun _ i=>pos+wd - (intOf i).toNat)
   case atStart=>exact ⟨pos,Nat.le_refl _,by omega,rfl,rfl⟩
   case round =>
    obtain ⟨k,hk1,hk2,rfl,rfl⟩:=hrel
    clear hn
    have hn:Fcs.sumL r s (t.data.toList.take k)<4294967296:=sumL_lt32 r s _ hs hr
    by_cases hlt:k<pos+wd
    ·have hkt:k<t.size:=by omega
     have HS:Hid (Fcs.sumL r s (t.data.toList.take (k+1))=Fcs.stp r 8 (Fcs.sumL r s (t.data.toList.take k) ^^^ t[k].toNat)):=by
      refine hide ?_
      rw [take_snoc t k hkt,Fcs.sumL_snoc]
     generalize Fcs.sumL r s (t.data.toList.take k)=n at *
     have hb:t[k].toNat<256:=t[k].toNat_lt
     have hx8:=idx_u32 n t[k].toNat hb
     have hx:=next_u32 r n t[k].toNat hn hr hb
     obtain ⟨hx8,hm⟩:=hx8
     have hc:=uh HC3 _ hm
     rw [← uh HS] at hx
     generalize n % 256 ^^^ t[k].toNat=m at *
     generalize hq:Fcs.sumL r s (t.data.toList.take (k+1))=q at *
     have HQ:=hide hq
     clear hq
     go_wp2
     go_round
     case rel=>exact ⟨k+1,by omega,by omega,by go_num,by rw [uh HQ]⟩
     case measure=>simp [intOf];omega
    ·obtain rfl:k=pos+wd:=by omega
     go_wp2
     go_roundw
     case rel =>
      refine ⟨pos+wd,hwl,rfl,?_,uh HC3,hbw2.trans (hb3.mono (by omega))⟩
      rw [hb3.block _ hsz2,hit2,uh HD]
     case measure =>
      have e3:w3.heap[w1.heap.size+1]?=some (.stringIter t (pos+wd)):=by rw [hb3.block _ hsz2,hit2,uh HD]
      simp only [World.iterPos,e3,hit]
      omega
  ·have hnx:∀ ty,(Instr.next (.pointer (some ⟨w1.heap.size+1,0,none⟩)) true ty).run Tryz.prog wr=_:=fun ty=>Lib.run_next_end_at wr (w1.heap.size+1) t pos ty hit hp
   go_wp2
   go_ret
   exact ⟨ret_int (by rw [List.take_of_length_le (by simp;omega)]),hb1.trans (hbw.mono hz1)⟩
theorem info_u8:(Tryz.prog.info? 5).map (fun i=>(i.zero,i.size,i.bytes))=some (some (.int .u8 0),1,1):=by kernel_rfl
theorem made2:madeCells #[Value.int .u8 0] 2=#[.int .u8 0,.int .u8 0]:=by kernel_rfl
theorem made4:madeCells #[Value.int .u8 0] 4=#[.int .u8 0,.int .u8 0,.int .u8 0,.int .u8 0]:=by kernel_rfl
theorem make2 (w:World):(Instr.makeSlice 22 (.int .i64 2) (.int .i64 2)).run Tryz.prog w=.ok (.slice (some ⟨w.heap.size,0,none⟩) 2 2) (w.alloc (.cells #[.int .u8 0,.int .u8 0] 5)) :=
 made2 ▸ run_make_row' (P:=Tryz.prog) 22 5 (.int .u8 0) 1 Tryz.underlying22 info_u8 rfl .i64 .i64 2 (by decide) (by decide) w
theorem make4 (w:World):(Instr.makeSlice 22 (.int .i64 4) (.int .i64 4)).run Tryz.prog w=.ok (.slice (some ⟨w.heap.size,0,none⟩) 4 4) (w.alloc (.cells #[.int .u8 0,.int .u8 0,.int .u8 0,.int .u8 0] 5)) :=
 made4 ▸ run_make_row' (P:=Tryz.prog) 22 5 (.int .u8 0) 1 Tryz.underlying22 info_u8 rfl .i64 .i64 4 (by decide) (by decide) w
theorem conv2 (w:World) (a b:Int):(convert 22 9 (.slice (some ⟨w.heap.size,0,none⟩) 2 2)).run Tryz.prog (w.alloc (.cells #[.int .u8 a,.int .u8 b] 5))=.ok (.string (strOfNums [a,b])) (w.alloc (.cells #[.int .u8 a,.int .u8 b] 5)) :=
 run_convert_bytes_arg (P:=Tryz.prog) _ 22 5 Tryz.underlying22 Tryz.underlying5 w.heap.size 0 2 2 [a,b] rfl (fun i hi=>by
  rw [World.cell?_alloc_at _ _ _ _ (by simp)]
  match i,hi with
  | 0,_=>rfl
  | 1,_=>rfl) 9 Tryz.underlying9
theorem conv4 (w:World) (a b c d:Int):(convert 22 9 (.slice (some ⟨w.heap.size,0,none⟩) 4 4)).run Tryz.prog (w.alloc (.cells #[.int .u8 a,.int .u8 b,.int .u8 c,.int .u8 d] 5))=.ok (.string (strOfNums [a,b,c,d])) (w.alloc (.cells #[.int .u8 a,.int .u8 b,.int .u8 c,.int .u8 d] 5)) :=
 run_convert_bytes_arg (P:=Tryz.prog) _ 22 5 Tryz.underlying22 Tryz.underlying5 w.heap.size 0 4 4 [a,b,c,d] rfl (fun i hi=>by
  rw [World.cell?_alloc_at _ _ _ _ (by simp)]
  match i,hi with
  | 0,_=>rfl
  | 1,_=>rfl
  | 2,_=>rfl
  | 3,_=>rfl) 9 Tryz.underlying9
set_option maxHeartbeats 400000 in
theorem low2 (n:Nat) (w:World) :
  Calls Tryz.prog 129 #[.int .u32 n,.int .i64 2] w fun e w'=>e=.returned (.string (strOfNums [(n:Int) % 256,(n:Int) / 256 % 256]))∧Below w.heap.size w w':=by
 have hm:=make2
 have hc:=conv2 w
 go_enter Tryz.func129,Tryz.ntmps129
 go_wp2_with fail
 go_rounds 3
 go_ret
 exact ⟨rfl,(Below.refl _ _).alloc (Nat.le_refl _) _⟩
set_option maxHeartbeats 400000 in
theorem low4 (n:Nat) (w:World) (hn:n<4294967296) :
  Calls Tryz.prog 129 #[.int .u32 n,.int .i64 4] w fun e w'=>e=.returned (.string (strOfNums [(n:Int) % 256,(n:Int) / 256 % 256,(n:Int) / 65536 % 256,(n:Int) / 16777216]))∧Below w.heap.size w w':=by
 have hm:=make4
 have hc:=conv4 w
 go_enter Tryz.func129,Tryz.ntmps129
 go_wp2_with fail
 go_rounds 5
 go_ret
 exact ⟨rfl,(Below.refl _ _).alloc (Nat.le_refl _) _⟩
theorem ret_str {a b:List Int} (h:a=b):Ending.returned (.string (strOfNums a))=.returned (.string (strOfNums b)):=by rw [h]
def tail4 (q:Nat):List Int:=[(4294967295 - q:Int) % 256,(4294967295 - q:Int) / 256 % 256,(4294967295 - q:Int) / 65536 % 256,(4294967295 - q:Int) / 16777216]
def tail2 (q:Nat):List Int:=[(65535 - q:Int) % 256,(65535 - q:Int) / 256]
def tailB (l:List UInt8) (wide:Bool):ByteArray:=if wide then strOfNums (tail4 (Fcs.sumL 3988292384 4294967295 l)) else strOfNums (tail2 (Fcs.sumL 33800 65535 l))

theorem ones_xor (n q:Nat) (h:q<2 ^ n):(2 ^ n - 1) ^^^ q=2 ^ n - 1 - q:=by
 apply Nat.eq_of_testBit_eq
 intro i
 rw [Nat.testBit_xor,Nat.testBit_two_pow_sub_one,show 2 ^ n - 1 - q=2 ^ n - (q+1) by omega,Nat.testBit_two_pow_sub_succ h]
 by_cases hi:i<n
 ·simp [hi]
 ·have:q.testBit i=false:=Nat.testBit_lt_two_pow (Nat.lt_of_lt_of_le h (Nat.pow_le_pow_right (by decide) (by omega)))
  simp [hi,this]
theorem flip_u16 (q:Nat) (h:q<65536):∃ m:Nat,bits .xor .u16 IntKind.u16.max (q:Int)=(m:Int)∧m=65535 - q :=
 ⟨65535 ^^^ q,u16_xor_nat 65535 q (by decide) h,ones_xor 16 q h⟩
theorem unsigned_u16:IntKind.u16.signed=false:=rfl
theorem flip_u32 (q:Nat) (h:q<4294967296):∃ m:Nat,bits .xor .u32 IntKind.u32.max (q:Int)=(m:Int)∧m=4294967295 - q :=
 ⟨4294967295 ^^^ q,u32_xor_nat 4294967295 q (by decide) h,ones_xor 32 q h⟩
theorem unsigned_u32:IntKind.u32.signed=false:=rfl
theorem flip_u64 (q:Nat) (h:q<18446744073709551616):∃ m:Nat,bits .xor .u64 IntKind.u64.max (q:Int)=(m:Int)∧m=18446744073709551615 - q :=
 ⟨18446744073709551615 ^^^ q,u64_xor_nat 18446744073709551615 q (by decide) h,ones_xor 64 q h⟩
theorem unsigned_u64:IntKind.u64.signed=false:=rfl

set_option maxHeartbeats 400000 in
theorem tailSize (b:Bool) (w:World):Calls Tryz.prog 131 #[.bool b] w fun e w'=>e=.returned (.int .i64 (if b then 4 else 2))∧w'=w:=by
 cases b
 all_goals
  go_enter Tryz.func131,Tryz.ntmps131
  go_wp2
  go_ret
  exact ⟨rfl,rfl⟩

set_option maxHeartbeats 400000 in
theorem specTail (t:ByteArray) (b:Bool) (w:World) (ht:t.size≤maxLen) :
  Calls Tryz.prog 101 #[.string t,.bool b] w fun e w'=>e=.returned (.string (tailB t.data.toList b))∧Below w.heap.size w w':=by
 cases b
 ·have hq:=sumL_lt16 33800 65535 t.data.toList (by decide) (by decide)
  have c:Calls Tryz.prog 126 #[.int .u64 65535,.string t,.int .u64 33800] w fun e w'=>e=.returned (.int .u64 (Fcs.sumL 33800 65535 t.data.toList:Nat))∧w'=w:=modelSum 65535 33800 t w (by decide) (by decide) ht
  have HV:Hid (tailB t.data.toList false=strOfNums (tail2 (Fcs.sumL 33800 65535 t.data.toList))):=hide rfl
  generalize tailB t.data.toList false=V at *
  generalize Fcs.sumL 33800 65535 t.data.toList=q at *
  have hc:=conv2
  have hsg:=unsigned_u64
  obtain ⟨m,hx,hm⟩:=flip_u64 q (by omega)
  have HM:=hide hm
  clear hm
  go_enter Tryz.func101,Tryz.ntmps101
  go_wp2_with fail
  refine c.mono ?_
  rintro e w1 ⟨rfl,rfl⟩
  go_wp2_with fail
  go_ret
  refine ⟨?_,(Below.refl _ _).alloc (Nat.le_refl _) _⟩
  rw [uh HV]
  refine ret_str ?_
  have hm:=uh HM
  simp only [tail2,List.cons.injEq,and_true]
  omega
 ·have hq:=sumL_lt32 3988292384 4294967295 t.data.toList (by decide) (by decide)
  have c:Calls Tryz.prog 126 #[.int .u64 4294967295,.string t,.int .u64 3988292384] w fun e w'=>e=.returned (.int .u64 (Fcs.sumL 3988292384 4294967295 t.data.toList:Nat))∧w'=w:=modelSum 4294967295 3988292384 t w (by decide) (by decide) ht
  have HV:Hid (tailB t.data.toList true=strOfNums (tail4 (Fcs.sumL 3988292384 4294967295 t.data.toList))):=hide rfl
  generalize tailB t.data.toList true=V at *
  generalize Fcs.sumL 3988292384 4294967295 t.data.toList=q at *
  have hc:=conv4
  have hsg:=unsigned_u64
  obtain ⟨m,hx,hm⟩:=flip_u64 q (by omega)
  have HM:=hide hm
  clear hm
  go_enter Tryz.func101,Tryz.ntmps101
  go_wp2_with fail
  refine c.mono ?_
  rintro e w1 ⟨rfl,rfl⟩
  go_wp2_with fail
  go_ret
  refine ⟨?_,(Below.refl _ _).alloc (Nat.le_refl _) _⟩
  rw [uh HV]
  refine ret_str ?_
  have hm:=uh HM
  simp only [tail4,List.cons.injEq,and_true]
  omega

set_option maxHeartbeats 400000 in
theorem implTail (t:ByteArray) (b:Bool) (w:World) (ht:t.size≤maxLen) (h8:t.size≤8000)
  (hT:Lib.Utf8Tabs 0 1 w) :
  Calls Tryz.prog 113 #[.string t,.bool b] w fun e w'=>e=.returned (.string (tailB t.data.toList b))∧Below w.heap.size w w':=by
 have d1:¬ ((8000:Int)<(t.size:Int)):=by omega
 cases b
 ·have hq:=sumL_lt16 33800 65535 t.data.toList (by decide) (by decide)
  have c:Calls Tryz.prog 132 #[.int .u16 65535,.int .u16 33800,.string t] w fun e w'=>e=.returned (.int .u16 (Fcs.sumL 33800 65535 t.data.toList:Nat))∧Below w.heap.size w w':=behind_u16 65535 33800 t w (by decide) (by decide) ht hT
  have HV:Hid (tailB t.data.toList false=strOfNums (tail2 (Fcs.sumL 33800 65535 t.data.toList))):=hide rfl
  generalize tailB t.data.toList false=V at *
  generalize Fcs.sumL 33800 65535 t.data.toList=q at *
  have hsg:=unsigned_u16
  obtain ⟨m,hx,hm⟩:=flip_u16 q (by omega)
  have hml:m<65536:=by omega
  have HM:=hide hm
  clear hm
  go_enter Tryz.func113,Tryz.ntmps113
  go_wp2_with fail
  refine c.mono ?_
  rintro e w1 ⟨rfl,hb1⟩
  go_wp2_with fail
  refine (tailSize false _).mono ?_
  rintro e w2 ⟨rfl,rfl⟩
  go_wp2_with fail
  refine (low2 m _).mono ?_
  rintro e w3 ⟨rfl,hb3⟩
  go_wp2
  go_ret
  refine ⟨?_,hb1.trans (hb3.mono hb1.size)⟩
  rw [uh HV]
  refine ret_str ?_
  have hm:=uh HM
  simp only [tail2,List.cons.injEq,and_true]
  omega
 ·have hq:=sumL_lt32 3988292384 4294967295 t.data.toList (by decide) (by decide)
  have c:Calls Tryz.prog 130 #[.int .u32 4294967295,.int .u32 3988292384,.string t] w fun e w'=>e=.returned (.int .u32 (Fcs.sumL 3988292384 4294967295 t.data.toList:Nat))∧Below w.heap.size w w':=behind_u32 4294967295 3988292384 t w (by decide) (by decide) ht hT
  have HV:Hid (tailB t.data.toList true=strOfNums (tail4 (Fcs.sumL 3988292384 4294967295 t.data.toList))):=hide rfl
  generalize tailB t.data.toList true=V at *
  generalize Fcs.sumL 3988292384 4294967295 t.data.toList=q at *
  have hsg:=unsigned_u32
  obtain ⟨m,hx,hm⟩:=flip_u32 q (by omega)
  have hml:m<4294967296:=by omega
  have HM:=hide hm
  clear hm
  go_enter Tryz.func113,Tryz.ntmps113
  go_wp2_with fail
  refine c.mono ?_
  rintro e w1 ⟨rfl,hb1⟩
  go_wp2_with fail
  refine (tailSize true _).mono ?_
  rintro e w2 ⟨rfl,rfl⟩
  go_wp2_with fail
  refine (low4 m _ hml).mono ?_
  rintro e w3 ⟨rfl,hb3⟩
  go_wp2
  go_ret
  refine ⟨?_,hb1.trans (hb3.mono hb1.size)⟩
  rw [uh HV]
  refine ret_str ?_
  have hm:=uh HM
  simp only [tail4,List.cons.injEq,and_true]
  omega

def tailV (t:ByteArray) (b:Bool):ByteArray:=if t.size≤8000 then tailB t.data.toList b else ⟨#[]⟩
theorem implTailAll (t:ByteArray) (b:Bool) (w:World) (ht:t.size≤maxLen) (hT:Lib.Utf8Tabs 0 1 w) :
  Calls Tryz.prog 113 #[.string t,.bool b] w fun e w'=>e=.returned (.string (tailV t b))∧Below w.heap.size w w':=by
 by_cases h8:t.size≤8000
 ·rw [show tailV t b=tailB t.data.toList b from if_pos h8]
  exact implTail t b w ht h8 hT
 ·rw [show tailV t b=⟨#[]⟩ from if_neg h8]
  have d1:(8000:Int)<(t.size:Int):=by omega
  unfold maxLen at ht
  go_enter Tryz.func113,Tryz.ntmps113
  go_wp2
  go_ret
  exact ⟨rfl,Below.refl _ _⟩
def tailN (b:Bool):Nat:=if b then 4 else 2
theorem tailN_le (b:Bool):tailN b≤4:=by cases b<;>decide
theorem size' (b:Bool) (w:World):Calls Tryz.prog 131 #[.bool b] w fun e w'=>e=.returned (.int .i64 (tailN b:Nat))∧w'=w:=by
 have:=tailSize b w
 cases b
 ·exact this
 ·exact this
theorem extract_size (t:ByteArray) (k:Nat) (h:k≤t.size):(t.extract 0 k).size=k:=by
 rw [ByteArray.size_extract];omega

set_option maxHeartbeats 1000000 in
theorem implGood_at (t:ByteArray) (b:Bool) (w:World) (k:Nat) (hk:t.size=k+tailN b) (h8:t.size≤8000) (hT:Lib.Utf8Tabs 0 1 w) :
  Calls Tryz.prog 141 #[.string t,.bool b] w fun e w'=>e=.returned (.bool ((t.extract k t.size).toList == (tailV (t.extract 0 k) b).toList))∧Below w.heap.size w w':=by
 have hkl:k≤t.size:=by omega
 have HC:Hid (∀ w,Lib.Utf8Tabs 0 1 w→Calls Tryz.prog 113 #[.string (t.extract 0 k),.bool b] w fun e w'=>e=.returned (.string (tailV (t.extract 0 k) b))∧Below w.heap.size w w'):=by
  refine hide fun w hT=>?_
  exact implTailAll (t.extract 0 k) b w (by rw [extract_size t k hkl];unfold maxLen;omega) hT
 have d1:¬ ((8000:Int)<(t.size:Int)):=by omega
 have hs:=size' b
 have hc4:=tailN_le b
 generalize tailN b=c at *
 have hkk:(t.size:Int) - (c:Int)=(k:Int):=by omega
 have hki:(k:Int)≤(t.size:Int):=by omega
 have HS:=hide hs
 clear hs hk
 generalize tailV (t.extract 0 k) b=V at *
 go_enter Tryz.func141,Tryz.ntmps141
 go_wp2_with fail
 refine (uh HS _).mono ?_
 rintro e w1 ⟨rfl,rfl⟩
 go_wp2_with fail
 go_region_held (fun _=>True) (trivial) (first
  | (go_at_call 113;refine (uh HC _ ?_).mono ?_;exact Utf8Tabs_below hT ((Below.refl _ _).drew);rintro e w2 ⟨rfl,hb2⟩))
 go_wp2
 go_ret
 exact ⟨rfl,(Below.refl _ _).drew.trans hb2⟩

theorem implGood_no (t:ByteArray) (b:Bool) (w:World) (h:8000<t.size∨t.size<tailN b) (ht:t.size≤maxLen) :
  Calls Tryz.prog 141 #[.string t,.bool b] w fun e w'=>e=.returned (.bool false)∧Below w.heap.size w w':=by
 unfold maxLen at ht
 have hs:=size' b
 have hc4:=tailN_le b
 generalize tailN b=c at *
 have HS:=hide hs
 clear hs
 by_cases h8:8000<t.size
 ·have d1:(8000:Int)<(t.size:Int):=by omega
  go_enter Tryz.func141,Tryz.ntmps141
  go_wp2_with fail
  refine (uh HS _).mono ?_
  rintro e w1 ⟨rfl,rfl⟩
  go_wp2
  all_goals first | (exfalso;omega) | (go_ret;exact ⟨rfl,Below.refl _ _⟩)
 ·have d1:¬ ((8000:Int)<(t.size:Int)):=by omega
  have d2:(t.size:Int) - (c:Int)<0:=by omega
  clear h
  go_enter Tryz.func141,Tryz.ntmps141
  go_wp2_with fail
  refine (uh HS _).mono ?_
  rintro e w1 ⟨rfl,rfl⟩
  go_wp2
  all_goals first | (exfalso;omega) | (go_ret;exact ⟨rfl,Below.refl _ _⟩)

def goodV (t:ByteArray) (b:Bool):Bool :=
 if t.size≤8000∧tailN b≤t.size then (t.extract (t.size - tailN b) t.size).toList == (tailV (t.extract 0 (t.size - tailN b)) b).toList else false
theorem implGoodAll (t:ByteArray) (b:Bool) (w:World) (ht:t.size≤maxLen) (hT:Lib.Utf8Tabs 0 1 w) :
  Calls Tryz.prog 141 #[.string t,.bool b] w fun e w'=>e=.returned (.bool (goodV t b))∧Below w.heap.size w w':=by
 by_cases h:t.size≤8000∧tailN b≤t.size
 ·rw [show goodV t b=_ from if_pos h]
  exact implGood_at t b w (t.size - tailN b) (by omega) h.1 hT
 ·rw [show goodV t b=false from if_neg h]
  exact implGood_no t b w (by omega) ht

structure Touch (B:Nat) (w w':World):Prop where
 os:w'.os=w.os
 tape:w'.tape=w.tape
 output:w'.output=w.output
 size:w'.heap.size=w.heap.size
 block:∀ k,k≠B→w'.heap[k]?=w.heap[k]?
theorem Touch.refl (B:Nat) (w:World):Touch B w w:=⟨rfl,rfl,rfl,rfl,fun _ _=>rfl⟩
theorem Touch.trans {B:Nat} {a b c:World} (h:Touch B a b) (k:Touch B b c):Touch B a c :=
 ⟨k.os.trans h.os,k.tape.trans h.tape,k.output.trans h.output,k.size.trans h.size,fun i hi=>(k.block i hi).trans (h.block i hi)⟩
theorem Touch.drew {B:Nat} {a w:World} (h:Touch B a w):Touch B a w.drew:=⟨h.os,h.tape,h.output,h.size,h.block⟩
theorem Touch.setCell {B:Nat} {a w:World} (h:Touch B a w) (o:Nat) (v:Value):Touch B a (w.setCell ⟨B,o,none⟩ v):=by
 have hb:=(Below.refl 0 w).setCell (p:=⟨B,o,none⟩) (Nat.zero_le _) v
 exact ⟨hb.os.trans h.os,hb.tape.trans h.tape,hb.output.trans h.output,by
  rw [← h.size];simp [World.setCell];done,fun k hk=>(Below.heap_setCell w ⟨B,o,none⟩ v k hk).trans (h.block k hk)⟩
theorem Touch.below {B:Nat} {w w':World} (h:Touch B w w'):Below B w w' :=
 ⟨h.os,h.tape,h.output,by rw [h.size];exact Nat.le_refl _,fun k hk=>h.block k (by omega)⟩

def Dat (w:World) (B:Nat) (sl:Value) (n:Nat):Prop :=
 (∃ a cap,sl=.slice a n cap)∧∀ i,i<n→∃ (b o cap x:Nat),sl=.slice (some ⟨b,o,none⟩) n cap∧b<B∧w.cell? ⟨b,o+i,none⟩=some (.int .u8 x)∧x<256
def Src (w:World) (B:Nat) (sl:Value) (n:Nat):Prop :=
 ∃ (p m z:Nat),p≤n∧m<18446744073709551616∧z≤12∧w.heap[B]?=some (.cells #[sl,.int .i64 p,.int .u64 m,.int .i64 z] 48)

theorem row4 {w:World} {B:Nat} {x0 x1 x2 x3:Value} {T:TypeId} (h:w.heap[B]?=some (.cells #[x0,x1,x2,x3] T)) :
  w.cell? ⟨B,0,none⟩=some x0∧w.cell? ⟨B,1,none⟩=some x1∧w.cell? ⟨B,2,none⟩=some x2∧w.cell? ⟨B,3,none⟩=some x3 ∧
  w.frozen? ⟨B,0,none⟩=false∧w.frozen? ⟨B,1,none⟩=false∧w.frozen? ⟨B,2,none⟩=false∧w.frozen? ⟨B,3,none⟩=false :=
 ⟨by rw [cell_of_row _ _ 0 _ _ (0,0) h];rfl,by rw [cell_of_row _ _ 1 _ _ (0,0) h];rfl,by rw [cell_of_row _ _ 2 _ _ (0,0) h];rfl,by rw [cell_of_row _ _ 3 _ _ (0,0) h];rfl,
  by simp [World.frozen?,h],by simp [World.frozen?,h],by simp [World.frozen?,h],by simp [World.frozen?,h]⟩
theorem set1 {w:World} {B:Nat} {x0 x1 x2 x3:Value} {T:TypeId} (h:w.heap[B]?=some (.cells #[x0,x1,x2,x3] T)) (v:Value):(w.setCell ⟨B,1,none⟩ v).heap[B]?=some (.cells #[x0,v,x2,x3] T):=by
 rw [heap_setCell_same w B 1 _ T v h];rfl
theorem set2 {w:World} {B:Nat} {x0 x1 x2 x3:Value} {T:TypeId} (h:w.heap[B]?=some (.cells #[x0,x1,x2,x3] T)) (v:Value):(w.setCell ⟨B,2,none⟩ v).heap[B]?=some (.cells #[x0,x1,v,x3] T):=by
 rw [heap_setCell_same w B 2 _ T v h];rfl
theorem set3 {w:World} {B:Nat} {x0 x1 x2 x3:Value} {T:TypeId} (h:w.heap[B]?=some (.cells #[x0,x1,x2,x3] T)) (v:Value):(w.setCell ⟨B,3,none⟩ v).heap[B]?=some (.cells #[x0,x1,x2,v] T):=by
 rw [heap_setCell_same w B 3 _ T v h];rfl
theorem xor64 (x y:Int):∃ m:Nat,m<18446744073709551616∧bits .xor .u64 x y=(m:Int):=by
 have h:=wf_bits .xor .u64 x y
 have hw:0≤bits .xor .u64 x y∧bits .xor .u64 x y≤18446744073709551615:=by
  simpa [Lit.wf,IntKind.min,IntKind.max,IntKind.signed,IntKind.bits] using h
 obtain ⟨m,hm⟩:=Int.eq_ofNat_of_zero_le hw.1
 exact ⟨m,by omega,hm⟩

theorem drawn (Y:Int) (most:Nat) (hY:0≤Y) (h1:1<most) (h2:most<4294967296):∃ r:Nat,wrap64 (Y.tmod (most:Int))=(r:Int)∧r<most:=by
 rw [Int.tmod_eq_emod_of_nonneg hY]
 have h3:0≤Y % (most:Int):=Int.emod_nonneg _ (by omega)
 have h4:Y % (most:Int)<most:=Int.emod_lt_of_pos _ (by omega)
 obtain ⟨r,hr⟩:=Int.eq_ofNat_of_zero_le h3
 refine ⟨r,?_,by omega⟩
 rw [hr]
 unfold wrap64
 omega

set_option maxHeartbeats 1000000 in
theorem src_n0 (w:World) (B:Nat) (most:Int) (h:most≤1) :
  Calls Tryz.prog 20 #[.pointer (some ⟨B,0,none⟩),.int .i64 most] w fun e w'=>e=.returned (.int .i64 0)∧w'=w:=by
 go_enter Tryz.func20,Tryz.ntmps20
 go_wp2
 go_ret
 exact ⟨rfl,rfl⟩
set_option maxHeartbeats 1000000 in
theorem src_n1 (w:World) (B:Nat) (sl:Value) (n p m z:Nat) (most:Nat) (h1:1<most) (h2:most<4294967296) (hn:n≤maxLen) (hp:p<n)
  (hB:w.heap[B]?=some (.cells #[sl,.int .i64 p,.int .u64 m,.int .i64 z] 48)) (hD:Dat w B sl n) :
  Calls Tryz.prog 20 #[.pointer (some ⟨B,0,none⟩),.int .i64 most] w fun e w'=>∃ r m':Nat,e=.returned (.int .i64 r)∧r<most∧m' < 18446744073709551616 ∧
   w'.heap[B]?=some (.cells #[sl,.int .i64 (p+1:Nat),.int .u64 m',.int .i64 z] 48)∧Touch B w w':=by
 obtain ⟨b,o,cap,x,rfl,hb,hx,hx2⟩:=hD.2 p hp
 unfold maxLen at hn
 obtain ⟨c0,c1,c2,c3,f0,f1,f2,f3⟩:=row4 hB
 have hbB:b≠B:=by omega
 have HB:=hide hB
 clear hB hD
 go_enter Tryz.func20,Tryz.ntmps20
 go_wp2_with fail
 go_region
 go_wp2_with fail
 go_region
 go_wp2_with fail
 refine gen_world (fun v=>v.heap[B]?=some (.cells #[.slice (some ⟨b,o,none⟩) n cap,.int .i64 (p+1:Nat),.int .u64 m,.int .i64 z] 48)∧Touch B w v)
  ⟨set1 (w:=w) (uh HB) _,((Touch.refl B w).setCell 1 _).drew.drew⟩ ?_
 clear c0 c1 c2 c3 f0 f1 f2 f3 HB hx
 rintro v1 ⟨hB,t1⟩
 obtain ⟨c0,c1,c2,c3,f0,f1,f2,f3⟩:=row4 hB
 have HB:=hide hB
 clear hB
 go_region
 go_wp2_with fail
 obtain ⟨m1,hm1,e1⟩:=xor64 (m:Int) (IntKind.u64.wrap ((m:Int)*8192))
 rw [e1]
 refine gen_world (fun v=>v.heap[B]?=some (.cells #[.slice (some ⟨b,o,none⟩) n cap,.int .i64 (p+1:Nat),.int .u64 m1,.int .i64 z] 48)∧Touch B w v)
  ⟨set2 (w:=v1) (uh HB) _,(t1.setCell 2 _).drew⟩ ?_
 clear c0 c1 c2 c3 f0 f1 f2 f3 HB e1 t1
 rintro v2 ⟨hB,t1⟩
 obtain ⟨c0,c1,c2,c3,f0,f1,f2,f3⟩:=row4 hB
 have HB:=hide hB
 clear hB
 go_region
 go_wp2_with fail
 obtain ⟨m2,hm2,e1⟩:=xor64 (m1:Int) ((m1:Int) / 128)
 rw [e1]
 refine gen_world (fun v=>v.heap[B]?=some (.cells #[.slice (some ⟨b,o,none⟩) n cap,.int .i64 (p+1:Nat),.int .u64 m2,.int .i64 z] 48)∧Touch B w v)
  ⟨set2 (w:=v2) (uh HB) _,(t1.setCell 2 _).drew⟩ ?_
 clear c0 c1 c2 c3 f0 f1 f2 f3 HB e1 t1
 rintro v3 ⟨hB,t1⟩
 obtain ⟨c0,c1,c2,c3,f0,f1,f2,f3⟩:=row4 hB
 have HB:=hide hB
 clear hB
 go_region
 go_wp2_with fail
 obtain ⟨m3,hm3,e1⟩:=xor64 (m2:Int) (IntKind.u64.wrap ((m2:Int)*131072))
 rw [e1]
 go_ret
 have hB2:=set2 (w:=v3) (uh HB) (.int .u64 m3)
 have t2:=(t1.setCell 2 (.int .u64 m3)).drew
 clear e1 c0 c1 c2 c3 f0 f1 f2 f3 HB t1
 obtain ⟨r,hr1,hr2⟩:=drawn (IntKind.u64.wrap ((x:Int)+(m3:Int) / 1048576)) most (by rw [IntKind.wrap_u64];omega) h1 h2
 exact ⟨r,m3,ret_int hr1,hr2,hm3,hB2,t2⟩

set_option maxHeartbeats 1000000 in
theorem src_n2 (w:World) (B:Nat) (sl:Value) (n p m z:Nat) (most:Nat) (h1:1<most) (h2:most<4294967296) (hp:p=n)
  (hB:w.heap[B]?=some (.cells #[sl,.int .i64 p,.int .u64 m,.int .i64 z] 48)) (hD:Dat w B sl n) :
  Calls Tryz.prog 20 #[.pointer (some ⟨B,0,none⟩),.int .i64 most] w fun e w'=>∃ r m':Nat,e=.returned (.int .i64 r)∧r<most∧m' < 18446744073709551616 ∧
   w'.heap[B]?=some (.cells #[sl,.int .i64 p,.int .u64 m',.int .i64 z] 48)∧Touch B w w':=by
 obtain ⟨a,cap,rfl⟩:=hD.1
 obtain ⟨c0,c1,c2,c3,f0,f1,f2,f3⟩:=row4 hB
 have HB:=hide hB
 have hpn:¬ ((p:Int)<(n:Int)):=by omega
 clear hB hD hp
 go_enter Tryz.func20,Tryz.ntmps20
 go_wp2_with fail
 go_region
 go_wp2_with fail
 refine gen_world (fun v=>v.heap[B]?=some (.cells #[.slice a n cap,.int .i64 p,.int .u64 m,.int .i64 z] 48)∧Touch B w v)
  ⟨uh HB,(Touch.refl B w).drew⟩ ?_
 clear c0 c1 c2 c3 f0 f1 f2 f3 HB
 rintro v1 ⟨hB,t1⟩
 obtain ⟨c0,c1,c2,c3,f0,f1,f2,f3⟩:=row4 hB
 have HB:=hide hB
 clear hB
 go_region
 go_wp2_with fail
 obtain ⟨m1,hm1,e1⟩:=xor64 (m:Int) (IntKind.u64.wrap ((m:Int)*8192))
 rw [e1]
 refine gen_world (fun v=>v.heap[B]?=some (.cells #[.slice a n cap,.int .i64 p,.int .u64 m1,.int .i64 z] 48)∧Touch B w v)
  ⟨set2 (w:=v1) (uh HB) _,(t1.setCell 2 _).drew⟩ ?_
 clear c0 c1 c2 c3 f0 f1 f2 f3 HB e1 t1
 rintro v2 ⟨hB,t1⟩
 obtain ⟨c0,c1,c2,c3,f0,f1,f2,f3⟩:=row4 hB
 have HB:=hide hB
 clear hB
 go_region
 go_wp2_with fail
 obtain ⟨m2,hm2,e1⟩:=xor64 (m1:Int) ((m1:Int) / 128)
 rw [e1]
 refine gen_world (fun v=>v.heap[B]?=some (.cells #[.slice a n cap,.int .i64 p,.int .u64 m2,.int .i64 z] 48)∧Touch B w v)
  ⟨set2 (w:=v2) (uh HB) _,(t1.setCell 2 _).drew⟩ ?_
 clear c0 c1 c2 c3 f0 f1 f2 f3 HB e1 t1
 rintro v3 ⟨hB,t1⟩
 obtain ⟨c0,c1,c2,c3,f0,f1,f2,f3⟩:=row4 hB
 have HB:=hide hB
 clear hB
 go_region
 go_wp2_with fail
 obtain ⟨m3,hm3,e1⟩:=xor64 (m2:Int) (IntKind.u64.wrap ((m2:Int)*131072))
 rw [e1]
 go_ret
 have hB2:=set2 (w:=v3) (uh HB) (.int .u64 m3)
 have t2:=(t1.setCell 2 (.int .u64 m3)).drew
 clear e1 c0 c1 c2 c3 f0 f1 f2 f3 HB t1
 obtain ⟨r,hr1,hr2⟩:=drawn (IntKind.u64.wrap ((m3:Int) / 1048576)) most (by rw [IntKind.wrap_u64];omega) h1 h2
 exact ⟨r,m3,ret_int hr1,hr2,hm3,hB2,t2⟩

theorem src_n (w:World) (B:Nat) (sl:Value) (n:Nat) (most:Nat) (h2:most<4294967296) (hn:n≤maxLen) (hS:Src w B sl n) (hD:Dat w B sl n) :
  Calls Tryz.prog 20 #[.pointer (some ⟨B,0,none⟩),.int .i64 most] w fun e w'=>∃ r:Nat,e=.returned (.int .i64 r)∧(r<most∨r=0)∧Src w' B sl n∧Touch B w w':=by
 obtain ⟨p,m,z,hp,hm,hz,hB⟩:=hS
 by_cases h1:1<most
 ·by_cases hpn:p<n
  ·refine (src_n1 w B sl n p m z most h1 h2 hn hpn hB hD).mono ?_
   rintro e w' ⟨r,m',he,hr,hm',hB',ht⟩
   exact ⟨r,he,Or.inl hr,⟨p+1,m',z,by omega,hm',hz,hB'⟩,ht⟩
  ·refine (src_n2 w B sl n p m z most h1 h2 (by omega) hB hD).mono ?_
   rintro e w' ⟨r,m',he,hr,hm',hB',ht⟩
   exact ⟨r,he,Or.inl hr,⟨p,m',z,hp,hm',hz,hB'⟩,ht⟩
 ·refine (src_n0 w B most (by omega)).mono ?_
  rintro e w' ⟨he,rfl⟩
  exact ⟨0,he,Or.inr rfl,⟨p,m,z,hp,hm,hz,hB⟩,Touch.refl _ _⟩

set_option maxHeartbeats 400000 in
theorem src_one (w:World) (B:Nat) (sl:Value) (n:Nat) (most:Nat) (h2:most<4294967296) (hn:n≤maxLen) (hS:Src w B sl n) (hD:Dat w B sl n) :
  Calls Tryz.prog 22 #[.pointer (some ⟨B,0,none⟩),.int .i64 most] w fun e w'=>∃ b:Bool,e=.returned (.bool b)∧Src w' B sl n∧Touch B w w':=by
 have c:=src_n w B sl n most h2 hn hS hD
 go_enter Tryz.func22,Tryz.ntmps22
 go_wp2_with fail
 refine c.mono ?_
 rintro e w1 ⟨r,rfl,hr,hS1,ht1⟩
 go_wp2
 go_ret
 exact ⟨_,rfl,hS1,ht1⟩

theorem Dat.below {w w':World} {B:Nat} {sl:Value} {n:Nat} (h:Dat w B sl n) (hb:Below B w w'):Dat w' B sl n :=
 ⟨h.1,fun i hi=>by
  obtain ⟨b,o,cap,x,h1,h2,h3,h4⟩:=h.2 i hi
  exact ⟨b,o,cap,x,h1,h2,by rw [← h3];exact hb.cell (p:=⟨b,o+i,none⟩) h2,h4⟩⟩
theorem Src.same {w w':World} {B:Nat} {sl:Value} {n:Nat} (h:Src w B sl n) (hb:w'.heap[B]?=w.heap[B]?):Src w' B sl n:=by
 obtain ⟨p,m,z,h1,h2,h3,h4⟩:=h
 exact ⟨p,m,z,h1,h2,h3,hb.trans h4⟩
theorem Src.lt {w:World} {B:Nat} {sl:Value} {n:Nat} (h:Src w B sl n):B<w.heap.size:=by
 obtain ⟨p,m,z,h1,h2,h3,h4⟩:=h
 exact (Array.getElem?_eq_some_iff.1 h4).1
theorem own_touch {w w':World} {B base:Nat} {e:TypeId} {size:Nat} {v:Value} {n:Nat} {xs:List Value} (h:w.ownsRow base e size v n xs) (ht:Touch B w w') (hb:B<base):w'.ownsRow base e size v n xs:=by
 refine ⟨h.1,?_⟩
 rcases h.2 with h2 | ⟨g,cap,cur,h1,h2,h3,h4⟩
 ·exact Or.inl h2
 ·exact Or.inr ⟨g,cap,cur,h1,h2,(ht.block g (by omega)).trans h3,h4⟩
end Go.Proofs.YtkcghhkkepndnaaGreatDoor
