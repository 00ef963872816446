/- What the listed variables of the library give the walks: the decoder's two tables as they are laid, and a start in which they lie; no condition. Small words of whole numbers: bits of them; no condition but those named. A row of bytes that the call itself has made: how it is turned into a text; a world made a letter; no condition. Texts as lists of bytes, and rows of bytes that the call made: appending, making, turning into a text; no condition. Plain mathematics of check sums: shifting a sum by eight bits, the table of 256, sums over bytes, and their bounds; no condition but those named at each theorem. Eight shifts of a sum, of both widths: the walk of shiftEight; no condition but that the numbers fit their kinds. -/
import Derived.Test.YtkcghhkkepndnaaGreatDoorRows
import Derived.Test.YtkcghhkkepndnaaGreatDoorDec
import Derived.Lib.LaidU8
import Derived.ProofKit
import Derived.Lay
import Derived.MakeChecks
import Derived.Test.YtkcghhkkepndnaaGreatDoorShW
import Derived.Deep.RegionHeld
import Derived.Deep.QuietTactic
import Derived.BigQuiet
namespace Go.Proofs.YtkcghhkkepndnaaGreatDoor
open Go.ChangeShapes Go.WideShapes Go.ChangeAt Go.RowKit

theorem own:ownKnob Tryz.prog.godebug=none:=by kernel_rfl
theorem u8x:U8Extra Tryz.prog Tryz.laysDec_ren:=⟨by kernel_rfl,by kernel_rfl,by kernel_rfl,by kernel_rfl,by kernel_rfl,by kernel_rfl,by kernel_rfl⟩
theorem first_eq:Rows.laid_unicode_utf8_first=Lib.firstData:=by kernel_rfl
theorem accept_eq:(Rows.laid_unicode_utf8_acceptRanges:DataW Unit)=Lib.acceptData:=by kernel_rfl
def laidTabs:List (String × DataW Unit):=Rows.fnLineRow.laid
theorem tabs_of {W:World} (hL:laidMetH Tryz.prog laidTabs W):Lib.Utf8Tabs 0 1 W:=by
 rw [MakeChecks.laidMetH_plain _ _ _ (by kernel_rfl)] at hL
 exact utf8Tabs_of_reads { Tryz.laysDec with } u8x (first_eq ▸ Lib.laidMet.reads hL (.tail _ (.head _))) (accept_eq ▸ Lib.laidMet.reads hL (.head _))
set_option maxRecDepth 100000 in
theorem start_met (os:Os) (args:Array Value):laidMetH Tryz.prog laidTabs ((World.laidAll Tryz.prog os laidTabs).forCall (fun _ _=>0) ⟨#[],args,[]⟩).memory:=by
 rw [MakeChecks.laidMetH_plain _ _ _ (by kernel_rfl)]
 exact laidMet_laidAll _ (by kernel_rfl) (by kernel_rfl)
end Go.Proofs.YtkcghhkkepndnaaGreatDoor
namespace Go.Proofs.YtkcghhkkepndnaaGreatDoor
open Go.RowKit
theorem i64_and_nat (a b:Nat) (ha:a<4294967296) (hb:b<4294967296):bits .and .i64 (a:Int) (b:Int)=((a &&& b:Nat):Int):=by
 have h3:a &&& b≤a:=Nat.and_le_left
 show IntKind.i64.wrap ((BitVec.ofInt 64 (a:Int) &&& BitVec.ofInt 64 (b:Int)).toNat:Int)=_
 rw [BitVec.toNat_and,ofInt_u64 a (by omega),ofInt_u64 b (by omega),IntKind.wrap_i64]
 omega
theorem ret_bool {a b:Bool} (h:a=b):Ending.returned (.bool a)=.returned (.bool b):=by rw [h]
end Go.Proofs.YtkcghhkkepndnaaGreatDoor
namespace Go.Proofs.YtkcghhkkepndnaaGreatDoor
open Go.RowKit
theorem gen_world {P:Program} {c:Code} {Q:Exit→Act→World→Prop} {a:Act} {W:World} (R:World→Prop) (hW:R W) (h:∀ v,R v→Code.wp P c Q a v):Code.wp P c Q a W:=h W hW
theorem take_snoc (s:ByteArray) (k:Nat) (h:k<s.size):s.data.toList.take (k+1)=s.data.toList.take k ++ [s[k]]:=by
 rw [List.take_succ_eq_append_getElem (by simpa using h)];rfl
theorem strOfNums_size (xs:List Int):(strOfNums xs).size=xs.length:=by simp [strOfNums,ByteArray.size]
theorem conv_own {w:World} {base:Nat} {v:Value} {n:Nat} {xs:List Int} (h:w.ownsRow base 5 1 v n (xs.map (Value.int .u8))) :
  (convert 22 9 v).run Tryz.prog w=.ok (.string (strOfNums xs)) w:=by
 have hl:xs.length=n:=by have:=h.1;simpa using this
 rcases h.2 with ⟨rfl,rfl⟩ | ⟨g,cap,cur,rfl,h2,h3,h4,h5,h6,h7⟩
 ·rw [run_convert_bytes_nil (P:=Tryz.prog) w 22 5 Tryz.underlying22 Tryz.underlying5 0 0 9 Tryz.underlying9]
  have:xs=[]:=List.eq_nil_of_length_eq_zero hl
  subst this
  rfl
 ·refine run_convert_bytes_arg (P:=Tryz.prog) w 22 5 Tryz.underlying22 Tryz.underlying5 g 0 n cap xs hl (fun i hi=>?_) 9 Tryz.underlying9
  rw [cell_of_row w g (0+i) cur _ (0,0) h3]
  have e1:(cur.toList.take (n*1))[i]?=(xs.map (Value.int .u8))[i]?:=by rw [h7]
  rw [List.getElem?_take,if_pos (by omega),Array.getElem?_toList] at e1
  rw [Nat.zero_add,e1]
  simp [List.getD,List.getElem?_eq_getElem (show i<xs.length by omega)]

theorem u8info:∃ i,Tryz.prog.info? 5=some i∧i.zero=some (.int .u8 0)∧i.size=1∧i.bytes=1:=by
 have h:(Tryz.prog.info? 5).map (fun i=>(i.zero,i.size,i.bytes))=some (some (.int .u8 0),1,1):=by kernel_rfl
 obtain ⟨i,hi,hzz⟩:=Option.map_eq_some_iff.1 h
 simp only [Prod.mk.injEq] at hzz
 exact ⟨i,hi,hzz.1,hzz.2.1,hzz.2.2⟩

end Go.Proofs.YtkcghhkkepndnaaGreatDoor
namespace Go.Proofs.YtkcghhkkepndnaaGreatDoor
open Go.RowKit
def txt (l:List UInt8):ByteArray:=⟨l.toArray⟩
def nums (l:List UInt8):List Int:=l.map fun c=>(c.toNat:Int)
def vals (l:List UInt8):List Value:=(nums l).map (Value.int .u8)
theorem txt_nums (l:List UInt8):strOfNums (nums l)=txt l:=by
 unfold strOfNums nums txt
 rw [List.map_map]
 congr 2
 conv=>rhs;rw [← List.map_id l]
 apply List.map_congr_left
 intro x _
 simp
theorem data_txt (l:List UInt8):(txt l).data.toList=l:=rfl
theorem txt_size (l:List UInt8):(txt l).size=l.length:=by simp [txt,ByteArray.size]
theorem vals_len (l:List UInt8):(vals l).length=l.length:=by simp [vals,nums]
theorem vals_append (l m:List UInt8):vals (l ++ m)=vals l ++ vals m:=by simp [vals,nums]
theorem vals_one (c:UInt8):vals [c]=[.int .u8 c.toNat]:=rfl
theorem u8_ne {c d:UInt8} (h:c≠d):((c.toNat:Int) == (d.toNat:Int))=false:=by
 refine beq_eq_false_iff_ne.2 fun e=>h (UInt8.toNat_inj.1 (by omega))
theorem own_conv {w:World} {base:Nat} {v:Value} {n:Nat} {l:List UInt8} (h:w.ownsRow base 5 1 v n (vals l)) :
  (convert 22 9 v).run Tryz.prog w=.ok (.string (txt l)) w:=by
 rw [← txt_nums]
 exact conv_own h
theorem append_bytes {wr:World} {cs:Array Value} {ops:Array Oper} {rest:List Oper} {o:Oper} {a:Act} {Q:Exit→Act→World→Prop} (hgd:o.guard=none) (s x:Operand)
  (ho:o.op=.call { callee:=.builtin .append,args:=#[s,x],argTypes:=#[22,22] })
  (base:Nat) (v:Value) (L news:List UInt8) (hs:a.eval s=v) (hown:wr.ownsRow base 5 1 v L.length (vals L))
  (m:Nat) (hm:news.length=m) (hx:a.eval x=.slice (some ⟨wr.heap.size,0,none⟩) m m) (hcs:cs.toList=vals news) (hlen:L.length+news.length≤10000000) (hbase:base≤wr.heap.size)
  (h:∀ v' w',w'.ownsRow base 5 1 v' (L ++ news).length (vals (L ++ news))→Below base wr w'→wpList Tryz.prog ops Q rest (a.put o.dst v') w'):wpList Tryz.prog ops Q (o :: rest) a (wr.alloc (.cells cs 5)):=by
 obtain ⟨ui,hi1,hi2,hi3,hi4⟩:=u8info
 subst hm
 refine wpList_append_own _ hgd s x 22 ho base 5 ui (.int .u8 0) 1 1 Tryz.underlying22 hi1 hi2 hi3 hi4 rfl (by decide) v L.length (vals L) hs (hown.alloc _) ⟨wr.heap.size,0,none⟩ news.length news.length (vals news) hx (by rw [vals_len,Nat.mul_one]) ?_ ?_ ?_ ?_ ?_ ?_
 ·intro i u hu
  rw [Addr.add_lit,Nat.zero_add,World.cell?_alloc_at _ _ _ _ rfl,← hu,← hcs,Array.getElem?_toList]
 ·intro u hu
  simp only [vals,nums,List.map_map,List.mem_map] at hu
  obtain ⟨x,_,rfl⟩:=hu
  rfl
 ·unfold maxLen;omega
 ·omega
 ·simp;omega
 ·intro v' w2 hown2 hg2 _
  refine h v' w2 ?_ ?_
  ·rw [vals_append,List.length_append];exact hown2
  ·exact ((Below.refl _ _).alloc hbase _).grown hg2 (by simp;omega) (fun q hq=>by exact (World.ownsRow.lt hown q hq).1)
theorem mk_bytes {w:World} {ops:Array Oper} {rest:List Oper} {o:Oper} {a:Act} {Q:Exit→Act→World→Prop} (hg:o.guard=none) (l c:Operand) (hop:o.op=Op.makeSlice 22 l c)
  (base:Nat) (C:Int) (n:Nat) (hl:a.eval l=.int .i64 0) (hc:a.eval c=.int .i64 C) (hC:C=(n:Int)) (hn:n≤1000000) (hb:base≤w.heap.size)
  (hK:∀ v w',w'.ownsRow base 5 1 v 0 (vals [])→Below base w w'→wpList Tryz.prog ops Q rest (a.put o.dst v) w'):wpList Tryz.prog ops Q (o :: rest) a w:=by
 obtain ⟨ui,hi1,hi2,hi3,hi4⟩:=u8info
 refine wpList_make_own w hg l c 22 hop base 5 ui (.int .u8 0) 1 Tryz.underlying22 hi1 hi2 hi3 .i64 .i64 C n hl hc hC (by rw [hi4];omega) (by unfold maxLen;omega) hb fun w' h1 h2=>?_
 exact hK _ w' h1 ((Below.refl _ _).grown h2 hb (fun k hk=>by cases hk))
theorem own_form {w:World} {base:Nat} {e:TypeId} {size:Nat} {v:Value} {n:Nat} {xs:List Value} (h:w.ownsRow base e size v n xs):∃ ad cp,v=.slice ad n cp:=by
 rcases h.2 with ⟨rfl,rfl⟩ | ⟨g,cap,cur,rfl,_⟩
 ·exact ⟨_,_,rfl⟩
 ·exact ⟨_,_,rfl⟩
theorem frz {w:World} {B:Nat} {cs:Array Value} {T:TypeId} (h:w.heap[B]?=some (.cells cs T)) (o:Nat):w.frozen? ⟨B,o,none⟩=false:=by simp [World.frozen?,h]
end Go.Proofs.YtkcghhkkepndnaaGreatDoor
namespace Go.Proofs.YtkcghhkkepndnaaGreatDoor
namespace Fcs
def step (r s:Nat):Nat:=if s % 2=1 then (s / 2) ^^^ r else s / 2
def stp (r:Nat):Nat→Nat→Nat
 | 0,s=>s
 | k+1,s=>step r (stp r k s)
def sumL (r s:Nat) (l:List UInt8):Nat:=l.foldl (fun s b=>stp r 8 (s ^^^ b.toNat)) s

theorem step_eq (r s:Nat):step r s=(s / 2) ^^^ (if s % 2=1 then r else 0):=by
 unfold step;split<;>simp

theorem xor_half (a b:Nat):(a ^^^ b) / 2=(a / 2) ^^^ (b / 2):=by
 have:=Nat.shiftRight_xor_distrib (a:=a) (b:=b) (i:=1)
 simpa [Nat.shiftRight_eq_div_pow] using this
theorem xor_div256 (a b:Nat):(a ^^^ b) / 256=(a / 256) ^^^ (b / 256):=by
 have:=Nat.shiftRight_xor_distrib (a:=a) (b:=b) (i:=8)
 simpa [Nat.shiftRight_eq_div_pow] using this
theorem xor_mod256 (a b:Nat):(a ^^^ b) % 256=(a % 256) ^^^ (b % 256):=by
 have:=Nat.xor_mod_two_pow (a:=a) (b:=b) (n:=8)
 simpa using this
theorem xor_odd (a b:Nat):(a ^^^ b) % 2=(a+b) % 2:=by
 have h:=Nat.xor_mod_two_pow (a:=a) (b:=b) (n:=1)
 rw [Nat.pow_one] at h
 rw [h]
 rcases Nat.mod_two_eq_zero_or_one a with ha | ha<;>rcases Nat.mod_two_eq_zero_or_one b with hb | hb<;>rw [ha,hb,Nat.add_mod,ha,hb]<;>decide

theorem step_even (r a b:Nat):step r ((2*a) ^^^ b)=a ^^^ step r b:=by
 rw [step_eq,step_eq,xor_half,xor_odd]
 have e1:2*a / 2=a:=by omega
 have e2:(2*a+b) % 2=b % 2:=by omega
 rw [e1,e2,Nat.xor_assoc]

theorem stp_high (r:Nat):∀ (k a b:Nat),stp r k ((2 ^ k*a) ^^^ b)=a ^^^ stp r k b
 | 0,a,b=>by simp [stp]
 | k+1,a,b=>by
  have e:2 ^ (k+1)*a=2 ^ k*(2*a):=by rw [Nat.pow_succ,Nat.mul_assoc]
  rw [stp,e,stp_high r k (2*a) b,step_even,stp]

theorem split256 (s:Nat):(2 ^ 8*(s / 256)) ^^^ (s % 256)=s:=by
 apply Nat.eq_of_testBit_eq
 intro i
 rw [Nat.testBit_xor,Nat.testBit_two_pow_mul]
 rw [show s % 256=s % 2 ^ 8 from rfl,show s / 256=s / 2 ^ 8 from rfl,Nat.testBit_mod_two_pow,Nat.testBit_div_two_pow]
 by_cases h:8≤i
 ·have:¬ i<8:=by omega
  simp [h,this]
 ·have:i<8:=by omega
  simp [h,this]

theorem stp8 (r s:Nat):stp r 8 s=(s / 256) ^^^ stp r 8 (s % 256):=by
 have:=stp_high r 8 (s / 256) (s % 256)
 rw [split256] at this
 exact this

theorem byte_div (b:Nat) (h:b<256):b / 256=0:=by omega
theorem table_step (r s b:Nat) (h:b<256):(s / 256) ^^^ stp r 8 ((s % 256) ^^^ b)=stp r 8 (s ^^^ b):=by
 rw [stp8 r (s ^^^ b),xor_div256,xor_mod256,byte_div b h,Nat.mod_eq_of_lt h,Nat.xor_zero]

theorem step_lt {n r s:Nat} (hr:r<2 ^ n) (hs:s<2 ^ n):step r s<2 ^ n:=by
 rw [step_eq]
 refine Nat.xor_lt_two_pow (by omega) ?_
 split
 ·exact hr
 ·exact Nat.two_pow_pos n
theorem stp_lt {n r s:Nat} (hr:r<2 ^ n) (hs:s<2 ^ n):∀ k,stp r k s<2 ^ n
 | 0=>hs
 | k+1=>step_lt hr (stp_lt hr hs k)
theorem byte_lt_pow {n:Nat} (hn:8≤n) {b:Nat} (h:b<256):b<2 ^ n :=
 Nat.lt_of_lt_of_le h (Nat.pow_le_pow_right (n:=2) (by decide) hn)
theorem sumL_lt {n r:Nat} (hn:8≤n) (hr:r<2 ^ n):∀ (l:List UInt8) (s:Nat),s<2 ^ n→sumL r s l<2 ^ n
 | [],_,hs=>hs
 | b :: l,_,hs=>sumL_lt hn hr l _ (stp_lt hr (Nat.xor_lt_two_pow hs (byte_lt_pow hn b.toNat_lt)) 8)
theorem sumL_snoc (r s:Nat) (l:List UInt8) (b:UInt8):sumL r s (l ++ [b])=stp r 8 (sumL r s l ^^^ b.toNat):=by
 simp [sumL,List.foldl_append]
end Fcs
end Go.Proofs.YtkcghhkkepndnaaGreatDoor
namespace Go.Proofs.YtkcghhkkepndnaaGreatDoor
open Go.RowKit
theorem and1_u16 (n:Nat) (h:n<65536):bits .and .u16 (n:Int) 1=((n % 2:Nat):Int):=by
 have:=u16_and_nat n 1 h (by decide)
 rw [nat_mask1] at this
 exact this
theorem xor2_u16 (n r:Nat) (h:n<65536) (hr:r<65536):bits .xor .u16 ((n:Int) / 2) (r:Int)=((n / 2 ^^^ r:Nat):Int):=by
 have:=u16_xor_nat (n / 2) r (by omega) hr
 rw [← this]
 rfl
theorem stp_lt_u16 (r s k:Nat) (hs:s<65536) (hr:r<65536):Fcs.stp r k s<65536:=Fcs.stp_lt (n:=16) hr hs k
set_option maxHeartbeats 400000 in
theorem shift_u16 (s r:Nat) (w:World) (hs:s<65536) (hr:r<65536) :
  Calls Tryz.prog 144 #[.int .u16 s,.int .u16 r] w fun e w'=>e=.returned (.int .u16 (Fcs.stp r 8 s:Nat))∧w'=w:=by
 go_enter Tryz.func144,Tryz.ntmps144
 go_wp2
 go_loop [0,6] (fun x i=>∃ (k:Nat),k≤8∧i=.int .i64 k∧x=.int .u16 (Fcs.stp r k s:Nat)) (fun _ i=>8 - (intOf i).toNat)
 case atStart=>exact ⟨0,by omega,rfl,rfl⟩
 case round =>
  obtain ⟨k,hk,rfl,rfl⟩:=hrel
  have hn:=stp_lt_u16 r s k hs hr
  have HS:Hid (Fcs.stp r (k+1) s=Fcs.step r (Fcs.stp r k s)):=hide rfl
  generalize hg:Fcs.stp r k s=n at *
  have HG:=hide hg
  clear hg
  by_cases hlt:k<8
  ·by_cases hodd:n % 2=1
   ·have hb:(bits .and .u16 (n:Int) 1 == 1)=true:=by rw [and1_u16 n hn,hodd];rfl
    have HB:=hide hodd
    clear hodd
    go_wp2
    go_round
    case rel=>exact ⟨k+1,by omega,by go_num,by rw [uh HS,xor2_u16 n r hn hr,Fcs.step,if_pos (uh HB)]⟩
    case measure=>simp [intOf];omega
   ·have hb:(bits .and .u16 (n:Int) 1 == 1)=false:=by
     rw [and1_u16 n hn,show n % 2=0 by omega];rfl
    have HB:=hide hodd
    clear hodd
    go_wp2
    go_round
    case rel=>exact ⟨k+1,by omega,by go_num,by rw [uh HS,Fcs.step,if_neg (uh HB)];rfl⟩
    case measure=>simp [intOf];omega
  ·have e8:k=8:=by omega
   have HK:=hide e8
   clear e8
   go_wp2
   go_ret
   refine ⟨ret_int ?_,rfl⟩
   rw [← uh HG,uh HK]
theorem and1_u32 (n:Nat) (h:n<4294967296):bits .and .u32 (n:Int) 1=((n % 2:Nat):Int):=by
 have:=u32_and_nat n 1 h (by decide)
 rw [nat_mask1] at this
 exact this
theorem xor2_u32 (n r:Nat) (h:n<4294967296) (hr:r<4294967296):bits .xor .u32 ((n:Int) / 2) (r:Int)=((n / 2 ^^^ r:Nat):Int):=by
 have:=u32_xor_nat (n / 2) r (by omega) hr
 rw [← this]
 rfl
theorem stp_lt_u32 (r s k:Nat) (hs:s<4294967296) (hr:r<4294967296):Fcs.stp r k s<4294967296:=Fcs.stp_lt (n:=32) hr hs k
set_option maxHeartbeats 400000 in
theorem shift_u32 (s r:Nat) (w:World) (hs:s<4294967296) (hr:r<4294967296) :
  Calls Tryz.prog 142 #[.int .u32 s,.int .u32 r] w fun e w'=>e=.returned (.int .u32 (Fcs.stp r 8 s:Nat))∧w'=w:=by
 go_enter Tryz.func142,Tryz.ntmps142
 go_wp2
 go_loop [0,6] (fun x i=>∃ (k:Nat),k≤8∧i=.int .i64 k∧x=.int .u32 (Fcs.stp r k s:Nat)) (fun _ i=>8 - (intOf i).toNat)
 case atStart=>exact ⟨0,by omega,rfl,rfl⟩
 case round =>
  obtain ⟨k,hk,rfl,rfl⟩:=hrel
  have hn:=stp_lt_u32 r s k hs hr
  have HS:Hid (Fcs.stp r (k+1) s=Fcs.step r (Fcs.stp r k s)):=hide rfl
  generalize hg:Fcs.stp r k s=n at *
  have HG:=hide hg
  clear hg
  by_cases hlt:k<8
  ·by_cases hodd:n % 2=1
   ·have hb:(bits .and .u32 (n:Int) 1 == 1)=true:=by rw [and1_u32 n hn,hodd];rfl
    have HB:=hide hodd
    clear hodd
    go_wp2
    go_round
    case rel=>exact ⟨k+1,by omega,by go_num,by rw [uh HS,xor2_u32 n r hn hr,Fcs.step,if_pos (uh HB)]⟩
    case measure=>simp [intOf];omega
   ·have hb:(bits .and .u32 (n:Int) 1 == 1)=false:=by
     rw [and1_u32 n hn,show n % 2=0 by omega];rfl
    have HB:=hide hodd
    clear hodd
    go_wp2
    go_round
    case rel=>exact ⟨k+1,by omega,by go_num,by rw [uh HS,Fcs.step,if_neg (uh HB)];rfl⟩
    case measure=>simp [intOf];omega
  ·have e8:k=8:=by omega
   have HK:=hide e8
   clear e8
   go_wp2
   go_ret
   refine ⟨ret_int ?_,rfl⟩
   rw [← uh HG,uh HK]
end Go.Proofs.YtkcghhkkepndnaaGreatDoor
