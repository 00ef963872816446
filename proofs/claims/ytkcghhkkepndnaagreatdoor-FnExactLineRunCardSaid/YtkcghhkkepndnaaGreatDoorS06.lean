/- A sum behind a text, of both widths: the walk of sumBehind, over the contracts of sumTable and of the library's decoder: it answers the sum of the text's bytes; what lay in memory stands; under the library's two tables as they are laid. A number's bytes, the lowest first: the walk of lowestFirst at two bytes and at four; what lay in memory stands. Tail, the program's and the model's: of a text of at most 8000 bytes the sum's bits turned, the lowest byte first; what lay in memory stands; under the library's two tables as they are laid. Good, the program's: does a text of at most 8000 bytes, and of at least a Tail's, end with the Tail of what is ahead; what lay in memory stands; under the library's two tables as they are laid. Several texts put behind others in a row: it stays where it is, or lies in a new block; what lay in memory stands but for the row that grows; no condition but those named. Numbers that were handed in: the law's own copies, counted; what lay in memory stands. -/
import Derived.Test.YtkcghhkkepndnaaGreatDoorS01
import Derived.Test.YtkcghhkkepndnaaGreatDoorDec
import Derived.Lib.OthersKept
import Derived.Lib.RuneCountTail
import Derived.Test.YtkcghhkkepndnaaGreatDoorS00
import Derived.Deep.OwnRows
import Derived.Deep.RegionHeld
import Derived.Deep.QuietTactic
import Derived.BigQuiet
import Derived.Test.YtkcghhkkepndnaaGreatDoorS02
import Derived.ArgAppend
import Derived.Deep.WholeRow
import Derived.Test.YtkcghhkkepndnaaGreatDoorShW
namespace Go.Proofs.YtkcghhkkepndnaaGreatDoor
open Go.RowKit

theorem decode (s:ByteArray) (w:World) (hT:Lib.Utf8Tabs 0 1 w) :
  Calls Tryz.prog 139 #[.string s] w fun e w'=>e=.returned (.tuple #[.int .i32 (Lib.decodeGo s).1,.int .i64 (Lib.decodeGo s).2])∧Below w.heap.size w w' :=
 Any.utf8_DecodeRuneInString Tryz.laysDec s w hT
theorem width_le (n b0 b1 b2 b3:Nat) (h:1≤n):(Lib.decodeN n b0 b1 b2 b3).2≤n:=by
 unfold Lib.decodeN
 repeat' split
 all_goals simp only []
 all_goals omega
def wid (s:ByteArray) (pos:Nat):Nat:=(Utf8.decode s pos).2
theorem wid_le (s:ByteArray) (pos:Nat) (h:pos<s.size):pos+wid s pos≤s.size:=by
 unfold wid
 rw [Lib.decode_at]
 have:=width_le (s.size - pos) (s.get! pos).toNat (s.get! (pos+1)).toNat (s.get! (pos+2)).toNat (s.get! (pos+3)).toNat (by omega)
 omega
theorem wid_pos (s:ByteArray) (pos:Nat):1≤wid s pos:=by
 unfold wid
 rw [Lib.decode_at]
 unfold Lib.decodeN
 repeat' split
 all_goals simp only []
 all_goals omega
theorem tail_wid (s:ByteArray) (pos:Nat) (h:pos<s.size):(Lib.decodeGo (s.extract pos s.size)).2=wid s pos:=by
 unfold Lib.decodeGo wid
 rw [Lib.tail_decode,if_neg (by rw [Lib.tail_size];omega),Nat.add_zero]

theorem idx_u16 (n b:Nat) (hb:b<256):bits .xor .u8 ((n:Int) % 256) (b:Int)=((n % 256 ^^^ b:Nat):Int)∧n % 256 ^^^ b<256:=by
 refine ⟨?_,Nat.xor_lt_two_pow (n:=8) (by omega) hb⟩
 have:=u8_xor_nat (n % 256) b (by omega) hb
 rw [← this]
 rfl
theorem next_u16 (r n b:Nat) (hn:n<65536) (hr:r<65536) (hb:b<256) :
  bits .xor .u16 ((n:Int) / 256) ((Fcs.stp r 8 (n % 256 ^^^ b):Nat):Int)=((Fcs.stp r 8 (n ^^^ b):Nat):Int):=by
 have hq:=stp_lt_u16 r (n % 256 ^^^ b) 8 (by have:=(idx_u16 n b hb).2;omega) hr
 rw [← Fcs.table_step r n b hb]
 have:=u16_xor_nat (n / 256) (Fcs.stp r 8 (n % 256 ^^^ b)) (by omega) hq
 rw [← this]
 rfl

set_option maxHeartbeats 1000000 in
set_option maxRecDepth 100000 in
theorem behind_u16 (s r:Nat) (t:ByteArray) (w:World) (hs:s<65536) (hr:r<65536) (ht:t.size≤maxLen)
  (hT:Lib.Utf8Tabs 0 1 w) :
  Calls Tryz.prog 132 #[.int .u16 s,.int .u16 r,.string t] w fun e w'=>e=.returned (.int .u16 (Fcs.sumL r s t.data.toList:Nat))∧Below w.heap.size w w':=by
 unfold maxLen at ht
 have hv:=(zero_of_info tabInfo_u16).1
 have hi:=(zero_of_info tabInfo_u16).2
 have hsz:=tabC_size .u16 r 256
 go_enter Tryz.func132,Tryz.ntmps132
 go_wp2_with fail
 refine (table_u16 r _ hr).mono ?_
 rintro e w1 ⟨rfl,hw1⟩
 have hb1:Below w.heap.size w w1:=by
  rw [hw1]
  exact ((Below.refl _ _).alloc (Nat.le_refl _) _).alloc (by simp) _
 clear hw1
 have hz1:w.heap.size≤w1.heap.size:=hb1.size
 go_wp2_with (first
  | (refine wpList_store_row _ rfl 179 _ _ rfl w1.heap.size (Array.replicate 256 (.int .u16 0)) (tabC .u16 r 256) rfl rfl (heap_alloc_last w1 _) (by rw [hsz];exact hi) (by rw [hsz,Array.size_replicate]) (tabC_one _ _ _) ?_;rw [World.setRow_alloc_new]))
 go_loopw [0] (fun x wr=>∃ pos:Nat,pos≤t.size∧x=.int .u16 (Fcs.sumL r s (t.data.toList.take pos):Nat)∧wr.heap[w1.heap.size+1]?=some (.stringIter t pos)∧(∀ j,j<256→wr.cell? ⟨w1.heap.size,j,none⟩=some (.int .u16 (Fcs.stp r 8 j:Nat)))∧Below w1.heap.size w1 wr) (fun _ wr=>t.size - wr.iterPos (w1.heap.size+1))
 case atStart =>
  refine ⟨0,Nat.zero_le _,rfl,?_,?_,?_⟩
  ·have:=World.iter_heap (w1.alloc (.cells (tabC .u16 r 256) 179)) t 0
   simpa using this
  ·intro j hj
   have h1:=World.cell?_of_block (w:=w1.alloc (.cells (tabC .u16 r 256) 179)) (w':=(w1.alloc (.cells (tabC .u16 r 256) 179)).iter t 0) (a:=⟨w1.heap.size,j,none⟩) (by
    simp only [World.iter]
    exact Below.heap_alloc _ _ _ (by simp))
   rw [h1,cell_of_row _ _ j (tabC .u16 r 256) 179 (0,0) (heap_alloc_last w1 _)]
   exact tabC_at .u16 r j hj
  ·exact ((Below.refl _ _).alloc (Nat.le_refl _) _).alloc (by simp) _
 case round =>
  obtain ⟨pos,hpl,rfl,hit,hcl,hbw⟩:=hrel
  have hn:Fcs.sumL r s (t.data.toList.take pos)<65536:=sumL_lt16 r s _ hs hr
  have hsz1:w1.heap.size+1<wr.heap.size:=(Array.getElem?_eq_some_iff.1 hit).1
  have HCL:=hide hcl
  clear hcl
  by_cases hp:pos<t.size
  ·have hnx:∀ ty,(Instr.next (.pointer (some ⟨w1.heap.size+1,0,none⟩)) true ty).run Tryz.prog wr=_:=fun ty=>Lib.run_next_any_at wr (w1.heap.size+1) t pos ty hit hp
   have hit2:=Lib.iterAt_heap wr (w1.heap.size+1) t pos (pos+(Utf8.decode t pos).2) hit
   have hbw2:=Lib.below_iterAt hbw (k:=w1.heap.size+1) (by omega) t (pos+(Utf8.decode t pos).2)
   have hsz2:w1.heap.size+1<(wr.iterAt (w1.heap.size+1) t (pos+(Utf8.decode t pos).2)).heap.size:=by rw [Lib.iterAt_size];omega
   generalize hw2:wr.iterAt (w1.heap.size+1) t (pos+(Utf8.decode t pos).2)=w2 at *
   have HW2:=hide hw2
   clear hw2
   have hT2:Lib.Utf8Tabs 0 1 w2:=Utf8Tabs_below hT (hb1.trans (hbw2.mono hz1))
   have HC2:Hid (∀ j,j<256→w2.cell? ⟨w1.heap.size,j,none⟩=some (.int .u16 (Fcs.stp r 8 j:Nat))):=by
    refine hide fun j hj=>?_
    rw [← uh HCL j hj,← uh HW2]
    exact World.cell?_of_block (Lib.iterAt_other wr (w1.heap.size+1) w1.heap.size t _ (by show w1.heap.size≠w1.heap.size+1;omega))
   go_wp2_with fail
   refine (decode (t.extract pos t.size) w2 hT2).mono ?_
   rintro e w3 ⟨rfl,hb3⟩
   rw [tail_wid t pos hp]
   have HC3:Hid (∀ j,j<256→w3.cell? ⟨w1.heap.size,j,none⟩=some (.int .u16 (Fcs.stp r 8 j:Nat))):=by
    refine hide fun j hj=>?_
    rw [← uh HC2 j hj]
    exact hb3.cell (p:=⟨w1.heap.size,j,none⟩) (by show w1.heap.size<w2.heap.size;omega)
   have hwl:=wid_le t pos hp
   have hwp:=wid_pos t pos
   have HD:Hid ((Utf8.decode t pos).2=wid t pos):=rfl
   generalize wid t pos=wd at *
   go_wp2
   go_loop [0,11] (fun x i=>∃ k:Nat,pos≤k∧k≤pos+wd∧i=.int .i64 k∧x=.int .u16 (Fcs.sumL r s (t.data.toList.take k):Nat)) (fun _ i=>pos+wd - (intOf i).toNat)
   case atStart=>exact ⟨pos,Nat.le_refl _,by omega,rfl,rfl⟩
   case round =>
    obtain ⟨k,hk1,hk2,rfl,rfl⟩:=hrel
    clear hn
    have hn:Fcs.sumL r s (t.data.toList.take k)<65536:=sumL_lt16 r s _ hs hr
    by_cases hlt:k<pos+wd
    ·have hkt:k<t.size:=by omega
     have HS:Hid (Fcs.sumL r s (t.data.toList.take (k+1))=Fcs.stp r 8 (Fcs.sumL r s (t.data.toList.take k) ^^^ t[k].toNat)):=by
      refine hide ?_
      rw [take_snoc t k hkt,Fcs.sumL_snoc]
     generalize Fcs.sumL r s (t.data.toList.take k)=n at *
     have hb:t[k].toNat<256:=t[k].toNat_lt
     have hx8:=idx_u16 n t[k].toNat hb
     have hx:=next_u16 r n t[k].toNat hn hr hb
     obtain ⟨hx8,hm⟩:=hx8
     have hc:=uh HC3 _ hm
     rw [← uh HS] at hx
     generalize n % 256 ^^^ t[k].toNat=m at *
     generalize hq:Fcs.sumL r s (t.data.toList.take (k+1))=q at *
     have HQ:=hide hq
     clear hq
     go_wp2
     go_round
     case rel=>exact ⟨k+1,by omega,by omega,by go_num,by rw [uh HQ]⟩
     case measure=>simp [intOf];omega
    ·obtain rfl:k=pos+wd:=by omega
     go_wp2
     go_roundw
     case rel =>
      refine ⟨pos+wd,hwl,rfl,?_,uh HC3,hbw2.trans (hb3.mono (by omega))⟩
      rw [hb3.block _ hsz2,hit2,uh HD]
     case measure =>
      have e3:w3.heap[w1.heap.size+1]?=some (.stringIter t (pos+wd)):=by rw [hb3.block _ hsz2,hit2,uh HD]
      simp only [World.iterPos,e3,hit]
      omega
  ·have hnx:∀ ty,(Instr.next (.pointer (some ⟨w1.heap.size+1,0,none⟩)) true ty).run Tryz.prog wr=_:=fun ty=>Lib.run_next_end_at wr (w1.heap.size+1) t pos ty hit hp
   go_wp2
   go_ret
   exact ⟨ret_int (by rw [List.take_of_length_le (by simp;omega)]),hb1.trans (hbw.mono hz1)⟩
theorem idx_u32 (n b:Nat) (hb:b<256):bits .xor .u8 ((n:Int) % 256) (b:Int)=((n % 256 ^^^ b:Nat):Int)∧n % 256 ^^^ b<256:=by
 refine ⟨?_,Nat.xor_lt_two_pow (n:=8) (by omega) hb⟩
 have:=u8_xor_nat (n % 256) b (by omega) hb
 rw [← this]
 rfl
theorem next_u32 (r n b:Nat) (hn:n<4294967296) (hr:r<4294967296) (hb:b<256) :
  bits .xor .u32 ((n:Int) / 256) ((Fcs.stp r 8 (n % 256 ^^^ b):Nat):Int)=((Fcs.stp r 8 (n ^^^ b):Nat):Int):=by
 have hq:=stp_lt_u32 r (n % 256 ^^^ b) 8 (by have:=(idx_u32 n b hb).2;omega) hr
 rw [← Fcs.table_step r n b hb]
 have:=u32_xor_nat (n / 256) (Fcs.stp r 8 (n % 256 ^^^ b)) (by omega) hq
 rw [← this]
 rfl

set_option maxHeartbeats 1000000 in
set_option maxRecDepth 100000 in
theorem behind_u32 (s r:Nat) (t:ByteArray) (w:World) (hs:s<4294967296) (hr:r<4294967296) (ht:t.size≤maxLen)
  (hT:Lib.Utf8Tabs 0 1 w) :
  Calls Tryz.prog 130 #[.int .u32 s,.int .u32 r,.string t] w fun e w'=>e=.returned (.int .u32 (Fcs.sumL r s t.data.toList:Nat))∧Below w.heap.size w w':=by
 unfold maxLen at ht
 have hv:=(zero_of_info tabInfo_u32).1
 have hi:=(zero_of_info tabInfo_u32).2
 have hsz:=tabC_size .u32 r 256
 go_enter Tryz.func130,Tryz.ntmps130
 go_wp2_with fail
 refine (table_u32 r _ hr).mono ?_
 rintro e w1 ⟨rfl,hw1⟩
 have hb1:Below w.heap.size w w1:=by
  rw [hw1]
  exact ((Below.refl _ _).alloc (Nat.le_refl _) _).alloc (by simp) _
 clear hw1
 have hz1:w.heap.size≤w1.heap.size:=hb1.size
 go_wp2_with (first
  | (refine wpList_store_row _ rfl 175 _ _ rfl w1.heap.size (Array.replicate 256 (.int .u32 0)) (tabC .u32 r 256) rfl rfl (heap_alloc_last w1 _) (by rw [hsz];exact hi) (by rw [hsz,Array.size_replicate]) (tabC_one _ _ _) ?_;rw [World.setRow_alloc_new]))
 go_loopw [0] (fun x wr=>∃ pos:Nat,pos≤t.size∧x=.int .u32 (Fcs.sumL r s (t.data.toList.take pos):Nat)∧wr.heap[w1.heap.size+1]?=some (.stringIter t pos)∧(∀ j,j<256→wr.cell? ⟨w1.heap.size,j,none⟩=some (.int .u32 (Fcs.stp r 8 j:Nat)))∧Below w1.heap.size w1 wr) (fun _ wr=>t.size - wr.iterPos (w1.heap.size+1))
 case atStart =>
  refine ⟨0,Nat.zero_le _,rfl,?_,?_,?_⟩
  ·have:=World.iter_heap (w1.alloc (.cells (tabC .u32 r 256) 175)) t 0
   simpa using this
  ·intro j hj
   have h1:=World.cell?_of_block (w:=w1.alloc (.cells (tabC .u32 r 256) 175)) (w':=(w1.alloc (.cells (tabC .u32 r 256) 175)).iter t 0) (a:=⟨w1.heap.size,j,none⟩) (by
    simp only [World.iter]
    exact Below.heap_alloc _ _ _ (by simp))
   rw [h1,cell_of_row _ _ j (tabC .u32 r 256) 175 (0,0) (heap_alloc_last w1 _)]
   exact tabC_at .u32 r j hj
  ·exact ((Below.refl _ _).alloc (Nat.le_refl _) _).alloc (by simp) _
 case round =>
  obtain ⟨pos,hpl,rfl,hit,hcl,hbw⟩:=hrel
  have hn:Fcs.sumL r s (t.data.toList.take pos)<4294967296:=sumL_lt32 r s _ hs hr
  have hsz1:w1.heap.size+1<wr.heap.size:=(Array.getElem?_eq_some_iff.1 hit).1
  have HCL:=hide hcl
  clear hcl
  by_cases hp:pos<t.size
  ·have hnx:∀ ty,(Instr.next (.pointer (some ⟨w1.heap.size+1,0,none⟩)) true ty).run Tryz.prog wr=_:=fun ty=>Lib.run_next_any_at wr (w1.heap.size+1) t pos ty hit hp
   have hit2:=Lib.iterAt_heap wr (w1.heap.size+1) t pos (pos+(Utf8.decode t pos).2) hit
   have hbw2:=Lib.below_iterAt hbw (k:=w1.heap.size+1) (by omega) t (pos+(Utf8.decode t pos).2)
   have hsz2:w1.heap.size+1<(wr.iterAt (w1.heap.size+1) t (pos+(Utf8.decode t pos).2)).heap.size:=by rw [Lib.iterAt_size];omega
   generalize hw2:wr.iterAt (w1.heap.size+1) t (pos+(Utf8.decode t pos).2)=w2 at *
   have HW2:=hide hw2
   clear hw2
   have hT2:Lib.Utf8Tabs 0 1 w2:=Utf8Tabs_below hT (hb1.trans (hbw2.mono hz1))
   have HC2:Hid (∀ j,j<256→w2.cell? ⟨w1.heap.size,j,none⟩=some (.int .u32 (Fcs.stp r 8 j:Nat))):=by
    refine hide fun j hj=>?_
    rw [← uh HCL j hj,← uh HW2]
    exact World.cell?_of_block (Lib.iterAt_other wr (w1.heap.size+1) w1.heap.size t _ (by show w1.heap.size≠w1.heap.size+1;omega))
   go_wp2_with fail
   refine (decode (t.extract pos t.size) w2 hT2).mono ?_
   rintro e w3 ⟨rfl,hb3⟩
   rw [tail_wid t pos hp]
   have HC3:Hid (∀ j,j<256→w3.cell? ⟨w1.heap.size,j,none⟩=some (.int .u32 (Fcs.stp r 8 j:Nat))):=by
    refine hide fun j hj=>?_
    rw [← uh HC2 j hj]
    exact hb3.cell (p:=⟨w1.heap.size,j,none⟩) (by show w1.heap.size<w2.heap.size;omega)
   have hwl:=wid_le t pos hp
   have hwp:=wid_pos t pos
   have HD:Hid ((Utf8.decode t pos).2=wid t pos):=rfl
   generalize wid t pos=wd at *
   go_wp2
   go_loop [0,11] (fun x i=>∃ k:Nat,pos≤k∧k≤pos+wd∧i=.int .i64 k∧x=.int .u32 (Fcs.sumL r s (t.data.toList.take k):Nat)) (fun _ i=>pos+wd - (intOf i).toNat)
   case atStart=>exact ⟨pos,Nat.le_refl _,by omega,rfl,rfl⟩
   case round =>
    obtain ⟨k,hk1,hk2,rfl,rfl⟩:=hrel
    clear hn
    have hn:Fcs.sumL r s (t.data.toList.take k)<4294967296:=sumL_lt32 r s _ hs hr
    by_cases hlt:k<pos+wd
    ·have hkt:k<t.size:=by omega
     have HS:Hid (Fcs.sumL r s (t.data.toList.take (k+1))=Fcs.stp r 8 (Fcs.sumL r s (t.data.toList.take k) ^^^ t[k].toNat)):=by
      refine hide ?_
      rw [take_snoc t k hkt,Fcs.sumL_snoc]
     generalize Fcs.sumL r s (t.data.toList.take k)=n at *
     have hb:t[k].toNat<256:=t[k].toNat_lt
     have hx8:=idx_u32 n t[k].toNat hb
     have hx:=next_u32 r n t[k].toNat hn hr hb
     obtain ⟨hx8,hm⟩:=hx8
     have hc:=uh HC3 _ hm
     rw [← uh HS] at hx
     generalize n % 256 ^^^ t[k].toNat=m at *
     generalize hq:Fcs.sumL r s (t.data.toList.take (k+1))=q at *
     have HQ:=hide hq
     clear hq
     go_wp2
     go_round
     case rel=>exact ⟨k+1,by omega,by omega,by go_num,by rw [uh HQ]⟩
     case measure=>simp [intOf];omega
    ·obtain rfl:k=pos+wd:=by omega
     go_wp2
     go_roundw
     case rel =>
      refine ⟨pos+wd,hwl,rfl,?_,uh HC3,hbw2.trans (hb3.mono (by omega))⟩
      rw [hb3.block _ hsz2,hit2,uh HD]
     case measure =>
      have e3:w3.heap[w1.heap.size+1]?=some (.stringIter t (pos+wd)):=by rw [hb3.block _ hsz2,hit2,uh HD]
      simp only [World.iterPos,e3,hit]
      omega
  ·have hnx:∀ ty,(Instr.next (.pointer (some ⟨w1.heap.size+1,0,none⟩)) true ty).run Tryz.prog wr=_:=fun ty=>Lib.run_next_end_at wr (w1.heap.size+1) t pos ty hit hp
   go_wp2
   go_ret
   exact ⟨ret_int (by rw [List.take_of_length_le (by simp;omega)]),hb1.trans (hbw.mono hz1)⟩
theorem info_u8:(Tryz.prog.info? 5).map (fun i=>(i.zero,i.size,i.bytes))=some (some (.int .u8 0),1,1):=by kernel_rfl
theorem made2:madeCells #[Value.int .u8 0] 2=#[.int .u8 0,.int .u8 0]:=by kernel_rfl
theorem made4:madeCells #[Value.int .u8 0] 4=#[.int .u8 0,.int .u8 0,.int .u8 0,.int .u8 0]:=by kernel_rfl
theorem make2 (w:World):(Instr.makeSlice 22 (.int .i64 2) (.int .i64 2)).run Tryz.prog w=.ok (.slice (some ⟨w.heap.size,0,none⟩) 2 2) (w.alloc (.cells #[.int .u8 0,.int .u8 0] 5)) :=
 made2 ▸ run_make_row' (P:=Tryz.prog) 22 5 (.int .u8 0) 1 Tryz.underlying22 info_u8 rfl .i64 .i64 2 (by decide) (by decide) w
theorem make4 (w:World):(Instr.makeSlice 22 (.int .i64 4) (.int .i64 4)).run Tryz.prog w=.ok (.slice (some ⟨w.heap.size,0,none⟩) 4 4) (w.alloc (.cells #[.int .u8 0,.int .u8 0,.int .u8 0,.int .u8 0] 5)) :=
 made4 ▸ run_make_row' (P:=Tryz.prog) 22 5 (.int .u8 0) 1 Tryz.underlying22 info_u8 rfl .i64 .i64 4 (by decide) (by decide) w
theorem conv2 (w:World) (a b:Int):(convert 22 9 (.slice (some ⟨w.heap.size,0,none⟩) 2 2)).run Tryz.prog (w.alloc (.cells #[.int .u8 a,.int .u8 b] 5))=.ok (.string (strOfNums [a,b])) (w.alloc (.cells #[.int .u8 a,.int .u8 b] 5)) :=
 run_convert_bytes_arg (P:=Tryz.prog) _ 22 5 Tryz.underlying22 Tryz.underlying5 w.heap.size 0 2 2 [a,b] rfl (fun i hi=>by
  rw [World.cell?_alloc_at _ _ _ _ (by simp)]
  match i,hi with
  | 0,_=>rfl
  | 1,_=>rfl) 9 Tryz.underlying9
theorem conv4 (w:World) (a b c d:Int):(convert 22 9 (.slice (some ⟨w.heap.size,0,none⟩) 4 4)).run Tryz.prog (w.alloc (.cells #[.int .u8 a,.int .u8 b,.int .u8 c,.int .u8 d] 5))=.ok (.string (strOfNums [a,b,c,d])) (w.alloc (.cells #[.int .u8 a,.int .u8 b,.int .u8 c,.int .u8 d] 5)) :=
 run_convert_bytes_arg (P:=Tryz.prog) _ 22 5 Tryz.underlying22 Tryz.underlying5 w.heap.size 0 4 4 [a,b,c,d] rfl (fun i hi=>by
  rw [World.cell?_alloc_at _ _ _ _ (by simp)]
  match i,hi with
  | 0,_=>rfl
  | 1,_=>rfl
  | 2,_=>rfl
  | 3,_=>rfl) 9 Tryz.underlying9
set_option maxHeartbeats 400000 in
theorem low2 (n:Nat) (w:World) :
  Calls Tryz.prog 129 #[.int .u32 n,.int .i64 2] w fun e w'=>e=.returned (.string (strOfNums [(n:Int) % 256,(n:Int) / 256 % 256]))∧Below w.heap.size w w':=by
 have hm:=make2
 have hc:=conv2 w
 go_enter Tryz.func129,Tryz.ntmps129
 go_wp2_with fail
 go_rounds 3
 go_ret
 exact ⟨rfl,(Below.refl _ _).alloc (Nat.le_refl _) _⟩
set_option maxHeartbeats 400000 in
theorem low4 (n:Nat) (w:World) (hn:n<4294967296) :
  Calls Tryz.prog 129 #[.int .u32 n,.int .i64 4] w fun e w'=>e=.returned (.string (strOfNums [(n:Int) % 256,(n:Int) / 256 % 256,(n:Int) / 65536 % 256,(n:Int) / 16777216]))∧Below w.heap.size w w':=by
 have hm:=make4
 have hc:=conv4 w
 go_enter Tryz.func129,Tryz.ntmps129
 go_wp2_with fail
 go_rounds 5
 go_ret
 exact ⟨rfl,(Below.refl _ _).alloc (Nat.le_refl _) _⟩
theorem ret_str {a b:List Int} (h:a=b):Ending.returned (.string (strOfNums a))=.returned (.string (strOfNums b)):=by rw [h]
def tail4 (q:Nat):List Int:=[(4294967295 - q:Int) % 256,(4294967295 - q:Int) / 256 % 256,(4294967295 - q:Int) / 65536 % 256,(4294967295 - q:Int) / 16777216]
def tail2 (q:Nat):List Int:=[(65535 - q:Int) % 256,(65535 - q:Int) / 256]
def tailB (l:List UInt8) (wide:Bool):ByteArray:=if wide then strOfNums (tail4 (Fcs.sumL 3988292384 4294967295 l)) else strOfNums (tail2 (Fcs.sumL 33800 65535 l))

theorem ones_xor (n q:Nat) (h:q<2 ^ n):(2 ^ n - 1) ^^^ q=2 ^ n - 1 - q:=by
 apply Nat.eq_of_testBit_eq
 intro i
 rw [Nat.testBit_xor,Nat.testBit_two_pow_sub_one,show 2 ^ n - 1 - q=2 ^ n - (q+1) by omega,Nat.testBit_two_pow_sub_succ h]
 by_cases hi:i<n
 ·simp [hi]
 ·have:q.testBit i=false:=Nat.testBit_lt_two_pow (Nat.lt_of_lt_of_le h (Nat.pow_le_pow_right (by decide) (by omega)))
  simp [hi,this]
theorem flip_u16 (q:Nat) (h:q<65536):∃ m:Nat,bits .xor .u16 IntKind.u16.max (q:Int)=(m:Int)∧m=65535 - q :=
 ⟨65535 ^^^ q,u16_xor_nat 65535 q (by decide) h,ones_xor 16 q h⟩
theorem unsigned_u16:IntKind.u16.signed=false:=rfl
theorem flip_u32 (q:Nat) (h:q<4294967296):∃ m:Nat,bits .xor .u32 IntKind.u32.max (q:Int)=(m:Int)∧m=4294967295 - q :=
 ⟨4294967295 ^^^ q,u32_xor_nat 4294967295 q (by decide) h,ones_xor 32 q h⟩
theorem unsigned_u32:IntKind.u32.signed=false:=rfl
theorem flip_u64 (q:Nat) (h:q<18446744073709551616):∃ m:Nat,bits .xor .u64 IntKind.u64.max (q:Int)=(m:Int)∧m=18446744073709551615 - q :=
 ⟨18446744073709551615 ^^^ q,u64_xor_nat 18446744073709551615 q (by decide) h,ones_xor 64 q h⟩
theorem unsigned_u64:IntKind.u64.signed=false:=rfl

set_option maxHeartbeats 400000 in
theorem tailSize (b:Bool) (w:World):Calls Tryz.prog 131 #[.bool b] w fun e w'=>e=.returned (.int .i64 (if b then 4 else 2))∧w'=w:=by
 cases b
 all_goals
  go_enter Tryz.func131,Tryz.ntmps131
  go_wp2
  go_ret
  exact ⟨rfl,rfl⟩

set_option maxHeartbeats 400000 in
theorem specTail (t:ByteArray) (b:Bool) (w:World) (ht:t.size≤maxLen) :
  Calls Tryz.prog 101 #[.string t,.bool b] w fun e w'=>e=.returned (.string (tailB t.data.toList b))∧Below w.heap.size w w':=by
 cases b
 ·have hq:=sumL_lt16 33800 65535 t.data.toList (by decide) (by decide)
  have c:Calls Tryz.prog 126 #[.int .u64 65535,.string t,.int .u64 33800] w fun e w'=>e=.returned (.int .u64 (Fcs.sumL 33800 65535 t.data.toList:Nat))∧w'=w:=modelSum 65535 33800 t w (by decide) (by decide) ht
  have HV:Hid (tailB t.data.toList false=strOfNums (tail2 (Fcs.sumL 33800 65535 t.data.toList))):=hide rfl
  generalize tailB t.data.toList false=V at *
  generalize Fcs.sumL 33800 65535 t.data.toList=q at *
  have hc:=conv2
  have hsg:=unsigned_u64
  obtain ⟨m,hx,hm⟩:=flip_u64 q (by omega)
  have HM:=hide hm
  clear hm
  go_enter Tryz.func101,Tryz.ntmps101
  go_wp2_with fail
  refine c.mono ?_
  rintro e w1 ⟨rfl,rfl⟩
  go_wp2_with fail
  go_ret
  refine ⟨?_,(Below.refl _ _).alloc (Nat.le_refl _) _⟩
  rw [uh HV]
  refine ret_str ?_
  have hm:=uh HM
  simp only [tail2,List.cons.injEq,and_true]
  omega
 ·have hq:=sumL_lt32 3988292384 4294967295 t.data.toList (by decide) (by decide)
  have c:Calls Tryz.prog 126 #[.int .u64 4294967295,.string t,.int .u64 3988292384] w fun e w'=>e=.returned (.int .u64 (Fcs.sumL 3988292384 4294967295 t.data.toList:Nat))∧w'=w:=modelSum 4294967295 3988292384 t w (by decide) (by decide) ht
  have HV:Hid (tailB t.data.toList true=strOfNums (tail4 (Fcs.sumL 3988292384 4294967295 t.data.toList))):=hide rfl
  generalize tailB t.data.toList true=V at *
  generalize Fcs.sumL 3988292384 4294967295 t.data.toList=q at *
  have hc:=conv4
  have hsg:=unsigned_u64
  obtain ⟨m,hx,hm⟩:=flip_u64 q (by omega)
  have HM:=hide hm
  clear hm
  go_enter Tryz.func101,Tryz.ntmps101
  go_wp2_with fail
  refine c.mono ?_
  rintro e w1 ⟨rfl,rfl⟩
  go_wp2_with fail
  go_ret
  refine ⟨?_,(Below.refl _ _).alloc (Nat.le_refl _) _⟩
  rw [uh HV]
  refine ret_str ?_
  have hm:=uh HM
  simp only [tail4,List.cons.injEq,and_true]
  omega

set_option maxHeartbeats 400000 in
theorem implTail (t:ByteArray) (b:Bool) (w:World) (ht:t.size≤maxLen) (h8:t.size≤8000)
  (hT:Lib.Utf8Tabs 0 1 w) :
  Calls Tryz.prog 113 #[.string t,.bool b] w fun e w'=>e=.returned (.string (tailB t.data.toList b))∧Below w.heap.size w w':=by
 have d1:¬ ((8000:Int)<(t.size:Int)):=by omega
 cases b
 ·have hq:=sumL_lt16 33800 65535 t.data.toList (by decide) (by decide)
  have c:Calls Tryz.prog 132 #[.int .u16 65535,.int .u16 33800,.string t] w fun e w'=>e=.returned (.int .u16 (Fcs.sumL 33800 65535 t.data.toList:Nat))∧Below w.heap.size w w':=behind_u16 65535 33800 t w (by decide) (by decide) ht hT
  have HV:Hid (tailB t.data.toList false=strOfNums (tail2 (Fcs.sumL 33800 65535 t.data.toList))):=hide rfl
  generalize tailB t.data.toList false=V at *
  generalize Fcs.sumL 33800 65535 t.data.toList=q at *
  have hsg:=unsigned_u16
  obtain ⟨m,hx,hm⟩:=flip_u16 q (by omega)
  have hml:m<65536:=by omega
  have HM:=hide hm
  clear hm
  go_enter Tryz.func113,Tryz.ntmps113
  go_wp2_with fail
  refine c.mono ?_
  rintro e w1 ⟨rfl,hb1⟩
  go_wp2_with fail
  refine (tailSize false _).mono ?_
  rintro e w2 ⟨rfl,rfl⟩
  go_wp2_with fail
  refine (low2 m _).mono ?_
  rintro e w3 ⟨rfl,hb3⟩
  go_wp2
  go_ret
  refine ⟨?_,hb1.trans (hb3.mono hb1.size)⟩
  rw [uh HV]
  refine ret_str ?_
  have hm:=uh HM
  simp only [tail2,List.cons.injEq,and_true]
  omega
 ·have hq:=sumL_lt32 3988292384 4294967295 t.data.toList (by decide) (by decide)
  have c:Calls Tryz.prog 130 #[.int .u32 4294967295,.int .u32 3988292384,.string t] w fun e w'=>e=.returned (.int .u32 (Fcs.sumL 3988292384 4294967295 t.data.toList:Nat))∧Below w.heap.size w w':=behind_u32 4294967295 3988292384 t w (by decide) (by decide) ht hT
  have HV:Hid (tailB t.data.toList true=strOfNums (tail4 (Fcs.sumL 3988292384 4294967295 t.data.toList))):=hide rfl
  generalize tailB t.data.toList true=V at *
  generalize Fcs.sumL 3988292384 4294967295 t.data.toList=q at *
  have hsg:=unsigned_u32
  obtain ⟨m,hx,hm⟩:=flip_u32 q (by omega)
  have hml:m<4294967296:=by omega
  have HM:=hide hm
  clear hm
  go_enter Tryz.func113,Tryz.ntmps113
  go_wp2_with fail
  refine c.mono ?_
  rintro e w1 ⟨rfl,hb1⟩
  go_wp2_with fail
  refine (tailSize true _).mono ?_
  rintro e w2 ⟨rfl,rfl⟩
  go_wp2_with fail
  refine (low4 m _ hml).mono ?_
  rintro e w3 ⟨rfl,hb3⟩
  go_wp2
  go_ret
  refine ⟨?_,hb1.trans (hb3.mono hb1.size)⟩
  rw [uh HV]
  refine ret_str ?_
  have hm:=uh HM
  simp only [tail4,List.cons.injEq,and_true]
  omega

def tailV (t:ByteArray) (b:Bool):ByteArray:=if t.size≤8000 then tailB t.data.toList b else ⟨#[]⟩
theorem implTailAll (t:ByteArray) (b:Bool) (w:World) (ht:t.size≤maxLen) (hT:Lib.Utf8Tabs 0 1 w) :
  Calls Tryz.prog 113 #[.string t,.bool b] w fun e w'=>e=.returned (.string (tailV t b))∧Below w.heap.size w w':=by
 by_cases h8:t.size≤8000
 ·rw [show tailV t b=tailB t.data.toList b from if_pos h8]
  exact implTail t b w ht h8 hT
 ·rw [show tailV t b=⟨#[]⟩ from if_neg h8]
  have d1:(8000:Int)<(t.size:Int):=by omega
  unfold maxLen at ht
  go_enter Tryz.func113,Tryz.ntmps113
  go_wp2
  go_ret
  exact ⟨rfl,Below.refl _ _⟩
def tailN (b:Bool):Nat:=if b then 4 else 2
theorem tailN_le (b:Bool):tailN b≤4:=by cases b<;>decide
theorem size' (b:Bool) (w:World):Calls Tryz.prog 131 #[.bool b] w fun e w'=>e=.returned (.int .i64 (tailN b:Nat))∧w'=w:=by
 have:=tailSize b w
 cases b
 ·exact this
 ·exact this
theorem extract_size (t:ByteArray) (k:Nat) (h:k≤t.size):(t.extract 0 k).size=k:=by
 rw [ByteArray.size_extract];omega

set_option maxHeartbeats 1000000 in
theorem implGood_at (t:ByteArray) (b:Bool) (w:World) (k:Nat) (hk:t.size=k+tailN b) (h8:t.size≤8000) (hT:Lib.Utf8Tabs 0 1 w) :
  Calls Tryz.prog 141 #[.string t,.bool b] w fun e w'=>e=.returned (.bool ((t.extract k t.size).toList == (tailV (t.extract 0 k) b).toList))∧Below w.heap.size w w':=by
 have hkl:k≤t.size:=by omega
 have HC:Hid (∀ w,Lib.Utf8Tabs 0 1 w→Calls Tryz.prog 113 #[.string (t.extract 0 k),.bool b] w fun e w'=>e=.returned (.string (tailV (t.extract 0 k) b))∧Below w.heap.size w w'):=by
  refine hide fun w hT=>?_
  exact implTailAll (t.extract 0 k) b w (by rw [extract_size t k hkl];unfold maxLen;omega) hT
 have d1:¬ ((8000:Int)<(t.size:Int)):=by omega
 have hs:=size' b
 have hc4:=tailN_le b
 generalize tailN b=c at *
 have hkk:(t.size:Int) - (c:Int)=(k:Int):=by omega
 have hki:(k:Int)≤(t.size:Int):=by omega
 have HS:=hide hs
 clear hs hk
 generalize tailV (t.extract 0 k) b=V at *
 go_enter Tryz.func141,Tryz.ntmps141
 go_wp2_with fail
 refine (uh HS _).mono ?_
 rintro e w1 ⟨rfl,rfl⟩
 go_wp2_with fail
 go_region_held (fun _=>True) (trivial) (first
  | (go_at_call 113;refine (uh HC _ ?_).mono ?_;exact Utf8Tabs_below hT ((Below.refl _ _).drew);rintro e w2 ⟨rfl,hb2⟩))
 go_wp2
 go_ret
 exact ⟨rfl,(Below.refl _ _).drew.trans hb2⟩

theorem implGood_no (t:ByteArray) (b:Bool) (w:World) (h:8000<t.size∨t.size<tailN b) (ht:t.size≤maxLen) :
  Calls Tryz.prog 141 #[.string t,.bool b] w fun e w'=>e=.returned (.bool false)∧Below w.heap.size w w':=by
 unfold maxLen at ht
 have hs:=size' b
 have hc4:=tailN_le b
 generalize tailN b=c at *
 have HS:=hide hs
 clear hs
 by_cases h8:8000<t.size
 ·have d1:(8000:Int)<(t.size:Int):=by omega
  go_enter Tryz.func141,Tryz.ntmps141
  go_wp2_with fail
  refine (uh HS _).mono ?_
  rintro e w1 ⟨rfl,rfl⟩
  go_wp2
  all_goals first | (exfalso;omega) | (go_ret;exact ⟨rfl,Below.refl _ _⟩)
 ·have d1:¬ ((8000:Int)<(t.size:Int)):=by omega
  have d2:(t.size:Int) - (c:Int)<0:=by omega
  clear h
  go_enter Tryz.func141,Tryz.ntmps141
  go_wp2_with fail
  refine (uh HS _).mono ?_
  rintro e w1 ⟨rfl,rfl⟩
  go_wp2
  all_goals first | (exfalso;omega) | (go_ret;exact ⟨rfl,Below.refl _ _⟩)

def goodV (t:ByteArray) (b:Bool):Bool :=
 if t.size≤8000∧tailN b≤t.size then (t.extract (t.size - tailN b) t.size).toList == (tailV (t.extract 0 (t.size - tailN b)) b).toList else false
theorem implGoodAll (t:ByteArray) (b:Bool) (w:World) (ht:t.size≤maxLen) (hT:Lib.Utf8Tabs 0 1 w) :
  Calls Tryz.prog 141 #[.string t,.bool b] w fun e w'=>e=.returned (.bool (goodV t b))∧Below w.heap.size w w':=by
 by_cases h:t.size≤8000∧tailN b≤t.size
 ·rw [show goodV t b=_ from if_pos h]
  exact implGood_at t b w (t.size - tailN b) (by omega) h.1 hT
 ·rw [show goodV t b=false from if_neg h]
  exact implGood_no t b w (by omega) ht
theorem run_append_sa {W:World} {base b2:Nat} {v s:Value} {G F:List ByteArray} (ty:TypeId) (hown:W.ownsRow base 9 1 v G.length (scells G)) (hs:W.ownsRow b2 9 1 s F.length (scells F)) (hG:G.length≤1048576) (hF:F.length≤1048576) (hbase:base≤W.heap.size) :
  ∃ v' W',(Builtin.append_ #[23,23] ty #[v,s]).run Tryz.prog W=.ok v' W'∧W'.ownsRow base 9 1 v' (G ++ F).length (scells (G ++ F))∧W.grownBy W' v.ownBlock:=by
 obtain ⟨i,hi,hz,hsz,hby⟩:=sinfo
 rcases hs.2 with ⟨rfl,e⟩ | ⟨g,cap,cur,rfl,_,h3,_,_,_,h7⟩
 ·have eF:F=[]:=List.eq_nil_of_length_eq_zero e
  subst eF
  refine ⟨v,W,?_,by rw [List.append_nil];exact hown,⟨rfl,rfl,rfl,Nat.le_refl _,fun _ _ _=>rfl⟩⟩
  rcases hown.2 with ⟨rfl,_⟩ | ⟨g,cap,cur,rfl,_,_,hnc,_⟩
  ·simp [Builtin.append_,run_underlying Tryz.underlying23,sizeOf,typeInfo,hi,Builtin.lenOf,Builtin.firstCells]
  ·simp [Builtin.append_,run_underlying Tryz.underlying23,sizeOf,typeInfo,hi,Builtin.lenOf,Builtin.firstCells,hnc,storeCells]
 ·obtain ⟨v',W',h1,h2,h4,_⟩:=run_append_own (P:=Tryz.prog) W base 23 ty 9 i _ 1 16 Tryz.underlying23 hi hz hsz hby rfl (by decide) v G.length (scells G) hown ⟨g,0,none⟩ F.length cap (scells F) (by rw [scells_len];omega) (fun j u hu=>by
    rw [Addr.add_lit,Nat.zero_add,cell_of_row _ _ _ _ _ _ h3,← hu,← h7,List.getElem?_take,Array.getElem?_toList]
    have hj:=(List.getElem?_eq_some_iff.1 hu).1
    rw [scells_len] at hj
    rw [if_pos (by omega)]) (fun u hu=>by
    simp only [scells,List.mem_map] at hu
    obtain ⟨x,_,rfl⟩:=hu
    rfl) (by unfold maxLen;omega) (by omega) hbase
  exact ⟨v',W',h1,by rw [List.length_append,scells_append];exact h2,h4⟩
theorem scells_one7 (F:List ByteArray):∀ u ∈ scells F,u.oneCell'=true:=by
 intro u hu
 simp only [scells,List.mem_map] at hu
 obtain ⟨x,_,rfl⟩:=hu
 rfl
theorem run_append_sb {W:World} {base b2:Nat} {v s:Value} {G F:List ByteArray} (ty:TypeId) (hown:W.ownsRow base 9 1 v G.length (scells G)) (hs:W.ownsRow b2 9 1 s F.length (scells F)) (hG:G.length≤1048576) (hF:F.length≤1048576) (hbase:base≤W.heap.size) :
  ∃ v' W',(Builtin.append_ #[23,23] ty #[v,s]).run Tryz.prog W=.ok v' W'∧W'.ownsRow base 9 1 v' (G ++ F).length (scells (G ++ F))∧W.grownBy W' v.ownBlock∧∀ m,v'.ownBlock=some m→v.ownBlock=some m∨W.heap.size≤m:=by
 obtain ⟨i,hi,hz,hsz,hby⟩:=sinfo
 obtain ⟨v',W',h1,h2,h3⟩:=run_append_sa (W:=W) ty hown hs hG hF hbase
 refine ⟨v',W',h1,h2,h3,fun m hm=>?_⟩
 rcases hown.2 with ⟨e,e0⟩ | ⟨g,cap,cur,e,_,hc,hnc,hcm,hcs,htk⟩
 ·
  subst e
  obtain ⟨v2,W2,k1,k2,_⟩:=run_append_sa (W:=W) (base:=W.heap.size) (G:=[]) ty (World.ownsRow_nil _ _ _ _) hs (by simp) hF (Nat.le_refl _)
  rw [h1] at k1
  injection k1 with k1 _
  subst k1
  exact Or.inr (World.ownsRow.lt k2 m hm).1
 ·subst e
  rcases hs.2 with ⟨es,ef⟩ | ⟨g2,cap2,cur2,es,_,s3,_,_,_,s7⟩
  ·subst es
   have hrun:(Builtin.append_ #[23,23] ty #[.slice (some ⟨g,0,none⟩) G.length cap,.slice none 0 0]).run Tryz.prog W=.ok (.slice (some ⟨g,0,none⟩) G.length cap) W:=by
    simp [Builtin.append_,run_underlying Tryz.underlying23,sizeOf,typeInfo,hi,Builtin.lenOf,Builtin.firstCells,hnc,storeCells]
   rw [h1] at hrun
   injection hrun with hrun _
   subst hrun
   exact Or.inl hm
  ·subst es
   have hnews:∀ j u,(scells F)[j]?=some u→W.cell? ((⟨g2,0,none⟩:Addr).add j)=some u:=fun j u hu=>by
    rw [Addr.add_lit,Nat.zero_add,cell_of_row _ _ _ _ _ _ s3,← hu,← s7,List.getElem?_take,Array.getElem?_toList]
    have hj:=(List.getElem?_eq_some_iff.1 hu).1
    rw [scells_len] at hj
    rw [if_pos (by omega)]
   have holds:∀ j u,(scells G)[j]?=some u→W.cell? ((⟨g,0,none⟩:Addr).add j)=some u:=fun j u hu=>by
    rw [Addr.add_lit,Nat.zero_add,cell_of_row _ _ _ _ _ _ hc,← hu,← htk,List.getElem?_take,Array.getElem?_toList]
    have hj:=(List.getElem?_eq_some_iff.1 hu).1
    rw [scells_len] at hj
    rw [if_pos (by omega)]
   by_cases hr:G.length+F.length≤cap
   ·have hcell:∀ j,j<(scells F).length→(W.cell? ⟨g,0+G.length*i.size+j,none⟩).isSome=true∧W.frozen? ⟨g,0+G.length*i.size+j,none⟩=false:=by
     intro j hj
     rw [scells_len] at hj
     have hlt:0+G.length*1+j<cur.size:=by omega
     rw [hsz,cell_of_row _ _ _ _ _ _ hc,Array.getElem?_eq_getElem hlt]
     exact ⟨rfl,frz hc _⟩
    have hrun:=run_append_room_cells (P:=Tryz.prog) W 23 ty 9 i Tryz.underlying23 hi g 0 G.length cap ⟨g2,0,none⟩ F.length cap2 (scells F) (by rw [hsz,scells_len];omega) hnews (scells_one7 F) hr (fun j hj=>(hcell j hj).1) (fun j hj=>(hcell j hj).2)
    rw [h1] at hrun
    injection hrun with hrun _
    subst hrun
    exact Or.inl hm
   ·obtain ⟨v2,W2,k1,r1,r2⟩:=run_append_arg_grows (P:=Tryz.prog) W 23 ty 9 i _ 1 16 Tryz.underlying23 hi hz hsz hby rfl (by decide) ⟨g,0,none⟩ G.length cap (scells G) (by rw [scells_len];omega) holds ⟨g2,0,none⟩ F.length cap2 (scells F) (by rw [scells_len];omega) hnews (by omega) (by unfold maxLen;omega) (by omega)
    rw [h1] at k1
    injection k1 with k1 _
    subst k1
    exact Or.inr (World.ownsRow.lt r1 m hm).1
def ArgI (w:World) (v:Value) (L:List Int):Prop :=
 (∃ a cap,v=.slice a L.length cap)∧∀ i (hi:i<L.length),∃ b o cap,v=.slice (some ⟨b,o,none⟩) L.length cap∧b<w.heap.size∧w.cell? ⟨b,o+i,none⟩=some (.int .i64 L[i])
theorem ArgI.below {w w':World} {v:Value} {L:List Int} (h:ArgI w v L) (hb:Below w.heap.size w w'):ArgI w' v L :=
 ⟨h.1,fun i hi=>by
  obtain ⟨b,o,cap,h1,h2,h3⟩:=h.2 i hi
  exact ⟨b,o,cap,h1,Nat.lt_of_lt_of_le h2 hb.size,(hb.cell (p:=⟨b,o+i,none⟩) h2).trans h3⟩⟩
theorem set_oneI (cur':Array Value) (L:List Value) (i:Nat) (A:Value) (hi:i<cur'.size) (h1:L[i]?=some A) (ha:∀ j,j<i→cur'[j]?=L[j]?):∀ j,j<i+1→(cur'.setIfInBounds i A)[j]?=L[j]?:=by
 intro j hj
 rw [Array.getElem?_setIfInBounds]
 by_cases e1:i=j
 ·rw [if_pos e1,if_pos hi,← e1,h1]
 ·rw [if_neg e1]
  exact ha j (by omega)
set_option maxHeartbeats 2000000 in
theorem toIs (v:Value) (L:List Int) (w:World) (hn:L.length≤1048576) (h:ArgI w v L) :
  Calls Tryz.prog 11 #[v] w fun e w'=>∃ u,e=.returned u∧HoldsI w' u L∧(∀ q,u.ownBlock=some q→w.heap.size≤q)∧Below w.heap.size w w':=by
 obtain ⟨i0,hi0,hz0,hz1,hz2⟩:=iinfo
 obtain ⟨va,vc,rfl⟩:=h.1
 have HA:=hide h
 clear h
 obtain ⟨n,hnn⟩:∃ n,L.length=n:=⟨_,rfl⟩
 rw [hnn] at hn ⊢
 go_enter Tryz.func11,Tryz.ntmps11
 go_wp2_with (first
  | (at_make;refine wpList_make_full w rfl _ _ 24 rfl w.heap.size 2 i0 _ 1 Tryz.underlying24 hi0 hz0 hz1 .i64 .i64 _ _ n rfl rfl rfl rfl (by rw [hz2];omega) (by unfold maxLen;omega) (Nat.le_refl _) ?_;rintro w1 ho1 hg1;have HO1:=hide ho1;have HG1:=hide hg1;clear ho1 hg1))
 have hb1:Below w.heap.size w w1:=(Below.refl _ _).grown (uh HG1) (Nat.le_refl _) (fun k hk=>by cases hk)
 obtain ⟨cur,hc1,hc2⟩:∃ cur,w1.heap[w.heap.size]?=some (.cells cur 2)∧cur.size=n:=by
  rcases (uh HO1).2 with ⟨k,_⟩ | ⟨g',cap,cur,k1,_,k3,_,_,k6,_⟩
  ·cases k
  ·simp only [Value.slice.injEq,Option.some.injEq,Addr.mk.injEq,true_and,and_true] at k1
   obtain ⟨rfl,rfl⟩:=k1
   exact ⟨cur,k3,by omega⟩
 have HC1:=hide hc1
 have HS:=hide (And.intro hc2 hb1)
 clear HO1 HG1 hc1 hc2 hb1
 go_loopw [4] (fun y wr=>∃ (i:Nat),i≤n∧y=.int .i64 i∧(∃ cur',wr.heap[w.heap.size]?=some (.cells cur' 2)∧cur'.size=n∧∀ j,j<i→cur'[j]?=(icells L)[j]?)∧Below w.heap.size w wr) (fun y _=>n - (intOf y).toNat)
 case atStart=>exact ⟨0,Nat.zero_le _,rfl,⟨cur,uh HC1,(uh HS).1,fun j hj=>by omega⟩,(uh HS).2⟩
 case round =>
  obtain ⟨i,hi,rfl,⟨cur',hg',hs',ha'⟩,hb⟩:=hrel
  have hbs:=hb.size
  clear HC1 HS
  have hgl:w.heap.size<wr.heap.size:=(Array.getElem?_eq_some_iff.1 hg').1
  by_cases hlt:i<n
  ·have e1:(i:Int)<(n:Int):=by omega
   obtain ⟨b,o,cap,hvf,hbl,k0⟩:=(uh HA).2 i (by omega)
   have hvf':va=some ⟨b,o,none⟩:=by
    simp only [Value.slice.injEq] at hvf
    exact hvf.1
   subst hvf'
   have hget:=icells_get L i (L[i]'(by omega)) (List.getElem?_eq_getElem (by omega))
   generalize hO:L[i]'(by omega)=dt at *
   have c0:=(hb.cell (p:=⟨b,o+i,none⟩) hbl).trans k0
   obtain ⟨y0,hy0⟩:∃ y,wr.cell? ⟨w.heap.size,i,none⟩=some y:=⟨cur'[i]'(by omega),by rw [cell_of_row _ _ _ _ _ _ hg',Array.getElem?_eq_getElem (by omega)]⟩
   have f0:wr.frozen? ⟨w.heap.size,i,none⟩=false:=frz hg' _
   have HGET:=hide hget
   have HG':=hide hg'
   have HA':=hide ha'
   have HB:=hide hb
   have HI:Hid (i<cur'.size):=hide (by omega)
   clear k0 hvf hO hget hg' ha' hb HA
   go_wp2
   go_roundw
   case rel =>
    refine ⟨i+1,by omega,by go_num,⟨_,heap_setCell_same _ _ i _ _ _ (uh HG'),by simp [hs'],?_⟩,(uh HB).setCell (p:=⟨w.heap.size,i,none⟩) (Nat.le_refl _) _⟩
    exact set_oneI cur' _ i _ (uh HI) (uh HGET) (uh HA')
   case measure=>simp [intOf];omega
  ·have e:i=n:=by omega
   subst e
   have d1:¬ ((i:Int)<(i:Int)):=by omega
   have HH:=hide (And.intro hg' ha')
   clear hg' ha'
   go_wp2
   go_ret
   refine ⟨_,rfl,Or.inr ⟨w.heap.size,i,cur',by rw [hnn];rfl,(uh HH).1,by rw [hnn];omega,by rw [hnn];exact (uh HH).2⟩,?_,hb⟩
   intro q hq
   cases hq
   exact Nat.le_refl _
end Go.Proofs.YtkcghhkkepndnaaGreatDoor
