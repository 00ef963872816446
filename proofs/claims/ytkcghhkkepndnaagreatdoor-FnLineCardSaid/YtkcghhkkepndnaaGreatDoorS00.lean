/- What the listed variables of the library give the walks: the decoder's two tables as they are laid, and a start in which they lie; no condition. Small words of whole numbers: bits of them; no condition but those named. Words of memory: all stands but for one block; a row that the call made stands where its block does; no condition. Plain mathematics of check sums: shifting a sum by eight bits, the table of 256, sums over bytes, and their bounds; no condition but those named at each theorem. Plain mathematics of frames: what is stuffed, what a deframer holds and finds byte by byte, that what was framed is found, and that parts are found as the whole; no condition but those that are written. Is a number an accm, and is a byte mapped by it: the program's and the model's walks; a byte below 32 is mapped if the bit of its number is 1. Eight shifts of a sum, of both widths: the walk of shiftEight; no condition but that the numbers fit their kinds. -/
import Derived.Test.YtkcghhkkepndnaaGreatDoorRows
import Derived.Test.YtkcghhkkepndnaaGreatDoorDec
import Derived.Lib.LaidU8
import Derived.ProofKit
import Derived.Lay
import Derived.MakeChecks
import Derived.Test.YtkcghhkkepndnaaGreatDoorShW
import Derived.Deep.RegionHeld
import Derived.Deep.QuietTactic
import Derived.BigQuiet
namespace Go.Proofs.YtkcghhkkepndnaaGreatDoor
open Go.ChangeShapes Go.WideShapes Go.ChangeAt Go.RowKit

theorem own:ownKnob Tryz.prog.godebug=none:=by kernel_rfl
theorem u8x:U8Extra Tryz.prog Tryz.laysDec_ren:=⟨by kernel_rfl,by kernel_rfl,by kernel_rfl,by kernel_rfl,by kernel_rfl,by kernel_rfl,by kernel_rfl⟩
theorem first_eq:Rows.laid_unicode_utf8_first=Lib.firstData:=by kernel_rfl
theorem accept_eq:(Rows.laid_unicode_utf8_acceptRanges:DataW Unit)=Lib.acceptData:=by kernel_rfl
def laidTabs:List (String × DataW Unit):=Rows.fnLineRow.laid
theorem tabs_of {W:World} (hL:laidMetH Tryz.prog laidTabs W):Lib.Utf8Tabs 0 1 W:=by
 rw [MakeChecks.laidMetH_plain _ _ _ (by kernel_rfl)] at hL
 exact utf8Tabs_of_reads { Tryz.laysDec with } u8x (first_eq ▸ Lib.laidMet.reads hL (.tail _ (.head _))) (accept_eq ▸ Lib.laidMet.reads hL (.head _))
set_option maxRecDepth 100000 in
theorem start_met (os:Os) (args:Array Value):laidMetH Tryz.prog laidTabs ((World.laidAll Tryz.prog os laidTabs).forCall (fun _ _=>0) ⟨#[],args,[]⟩).memory:=by
 rw [MakeChecks.laidMetH_plain _ _ _ (by kernel_rfl)]
 exact laidMet_laidAll _ (by kernel_rfl) (by kernel_rfl)
end Go.Proofs.YtkcghhkkepndnaaGreatDoor
namespace Go.Proofs.YtkcghhkkepndnaaGreatDoor
open Go.RowKit
theorem i64_and_nat (a b:Nat) (ha:a<4294967296) (hb:b<4294967296):bits .and .i64 (a:Int) (b:Int)=((a &&& b:Nat):Int):=by
 have h3:a &&& b≤a:=Nat.and_le_left
 show IntKind.i64.wrap ((BitVec.ofInt 64 (a:Int) &&& BitVec.ofInt 64 (b:Int)).toNat:Int)=_
 rw [BitVec.toNat_and,ofInt_u64 a (by omega),ofInt_u64 b (by omega),IntKind.wrap_i64]
 omega
theorem ret_bool {a b:Bool} (h:a=b):Ending.returned (.bool a)=.returned (.bool b):=by rw [h]
end Go.Proofs.YtkcghhkkepndnaaGreatDoor
namespace Go.Proofs.YtkcghhkkepndnaaGreatDoor
open Go.RowKit
structure Nr (B:Nat) (w w':World):Prop where
 os:w'.os=w.os
 tape:w'.tape=w.tape
 output:w'.output=w.output
 size:w.heap.size≤w'.heap.size
 block:∀ k,k<w.heap.size→k≠B→w'.heap[k]?=w.heap[k]?
theorem Nr.refl (B:Nat) (w:World):Nr B w w:=⟨rfl,rfl,rfl,Nat.le_refl _,fun _ _ _=>rfl⟩
theorem Nr.trans {B:Nat} {a b c:World} (h:Nr B a b) (k:Nr B b c):Nr B a c :=
 ⟨k.os.trans h.os,k.tape.trans h.tape,k.output.trans h.output,Nat.le_trans h.size k.size,fun i hi hn=>(k.block i (Nat.lt_of_lt_of_le hi h.size) hn).trans (h.block i hi hn)⟩
theorem Nr.drew {B:Nat} {a w:World} (h:Nr B a w):Nr B a w.drew:=⟨h.os,h.tape,h.output,h.size,h.block⟩
theorem Nr.drewN {B:Nat} {a w:World} (h:Nr B a w) (k:Nat):Nr B a (w.drewN k):=⟨h.os,h.tape,h.output,h.size,h.block⟩
theorem Nr.setCell {B:Nat} {a w:World} (h:Nr B a w) (o:Nat) (v:Value):Nr B a (w.setCell ⟨B,o,none⟩ v):=by
 have hb:=(Below.refl 0 w).setCell (p:=⟨B,o,none⟩) (Nat.zero_le _) v
 exact ⟨hb.os.trans h.os,hb.tape.trans h.tape,hb.output.trans h.output,Nat.le_trans h.size hb.size,fun k hk hn=>(Below.heap_setCell w ⟨B,o,none⟩ v k hn).trans (h.block k hk hn)⟩
theorem Nr.of_below {B:Nat} {a w w':World} (h:Nr B a w) (hb:Below w.heap.size w w'):Nr B a w' :=
 h.trans ⟨hb.os,hb.tape,hb.output,hb.size,fun k hk _=>hb.block k hk⟩
theorem Nr.alloc {B:Nat} {a w:World} (h:Nr B a w) (o:Obj):Nr B a (w.alloc o):=h.of_below ((Below.refl _ _).alloc (Nat.le_refl _) _)
theorem Nr.below {B n:Nat} {w w':World} (h:Nr B w w') (hn:n≤B) (hw:n≤w.heap.size):Below n w w' :=
 ⟨h.os,h.tape,h.output,h.size,fun k hk=>h.block k (by omega) (by omega)⟩
structure But (o:Option Nat) (w w':World):Prop where
 os:w'.os=w.os
 tape:w'.tape=w.tape
 output:w'.output=w.output
 size:w.heap.size≤w'.heap.size
 block:∀ b,b<w.heap.size→o≠some b→w'.heap[b]?=w.heap[b]?
theorem But.of_below {o:Option Nat} {w w':World} (h:Below w.heap.size w w'):But o w w':=⟨h.os,h.tape,h.output,h.size,fun b hb _=>h.block b hb⟩
end Go.Proofs.YtkcghhkkepndnaaGreatDoor
namespace Go.Proofs.YtkcghhkkepndnaaGreatDoor
namespace Fcs
def step (r s:Nat):Nat:=if s % 2=1 then (s / 2) ^^^ r else s / 2
def stp (r:Nat):Nat→Nat→Nat
 | 0,s=>s
 | k+1,s=>step r (stp r k s)
def sumL (r s:Nat) (l:List UInt8):Nat:=l.foldl (fun s b=>stp r 8 (s ^^^ b.toNat)) s

theorem step_eq (r s:Nat):step r s=(s / 2) ^^^ (if s % 2=1 then r else 0):=by
 unfold step;split<;>simp

theorem xor_half (a b:Nat):(a ^^^ b) / 2=(a / 2) ^^^ (b / 2):=by
 have:=Nat.shiftRight_xor_distrib (a:=a) (b:=b) (i:=1)
 simpa [Nat.shiftRight_eq_div_pow] using this
theorem xor_div256 (a b:Nat):(a ^^^ b) / 256=(a / 256) ^^^ (b / 256):=by
 have:=Nat.shiftRight_xor_distrib (a:=a) (b:=b) (i:=8)
 simpa [Nat.shiftRight_eq_div_pow] using this
theorem xor_mod256 (a b:Nat):(a ^^^ b) % 256=(a % 256) ^^^ (b % 256):=by
 have:=Nat.xor_mod_two_pow (a:=a) (b:=b) (n:=8)
 simpa using this
theorem xor_odd (a b:Nat):(a ^^^ b) % 2=(a+b) % 2:=by
 have h:=Nat.xor_mod_two_pow (a:=a) (b:=b) (n:=1)
 rw [Nat.pow_one] at h
 rw [h]
 rcases Nat.mod_two_eq_zero_or_one a with ha | ha<;>rcases Nat.mod_two_eq_zero_or_one b with hb | hb<;>rw [ha,hb,Nat.add_mod,ha,hb]<;>decide

theorem step_even (r a b:Nat):step r ((2*a) ^^^ b)=a ^^^ step r b:=by
 rw [step_eq,step_eq,xor_half,xor_odd]
 have e1:2*a / 2=a:=by omega
 have e2:(2*a+b) % 2=b % 2:=by omega
 rw [e1,e2,Nat.xor_assoc]

theorem stp_high (r:Nat):∀ (k a b:Nat),stp r k ((2 ^ k*a) ^^^ b)=a ^^^ stp r k b
 | 0,a,b=>by simp [stp]
 | k+1,a,b=>by
  have e:2 ^ (k+1)*a=2 ^ k*(2*a):=by rw [Nat.pow_succ,Nat.mul_assoc]
  rw [stp,e,stp_high r k (2*a) b,step_even,stp]

theorem split256 (s:Nat):(2 ^ 8*(s / 256)) ^^^ (s % 256)=s:=by
 apply Nat.eq_of_testBit_eq
 intro i
 rw [Nat.testBit_xor,Nat.testBit_two_pow_mul]
 rw [show s % 256=s % 2 ^ 8 from rfl,show s / 256=s / 2 ^ 8 from rfl,Nat.testBit_mod_two_pow,Nat.testBit_div_two_pow]
 by_cases h:8≤i
 ·have:¬ i<8:=by omega
  simp [h,this]
 ·have:i<8:=by omega
  simp [h,this]

theorem stp8 (r s:Nat):stp r 8 s=(s / 256) ^^^ stp r 8 (s % 256):=by
 have:=stp_high r 8 (s / 256) (s % 256)
 rw [split256] at this
 exact this

theorem byte_div (b:Nat) (h:b<256):b / 256=0:=by omega
theorem table_step (r s b:Nat) (h:b<256):(s / 256) ^^^ stp r 8 ((s % 256) ^^^ b)=stp r 8 (s ^^^ b):=by
 rw [stp8 r (s ^^^ b),xor_div256,xor_mod256,byte_div b h,Nat.mod_eq_of_lt h,Nat.xor_zero]

theorem step_lt {n r s:Nat} (hr:r<2 ^ n) (hs:s<2 ^ n):step r s<2 ^ n:=by
 rw [step_eq]
 refine Nat.xor_lt_two_pow (by omega) ?_
 split
 ·exact hr
 ·exact Nat.two_pow_pos n
theorem stp_lt {n r s:Nat} (hr:r<2 ^ n) (hs:s<2 ^ n):∀ k,stp r k s<2 ^ n
 | 0=>hs
 | k+1=>step_lt hr (stp_lt hr hs k)
theorem byte_lt_pow {n:Nat} (hn:8≤n) {b:Nat} (h:b<256):b<2 ^ n :=
 Nat.lt_of_lt_of_le h (Nat.pow_le_pow_right (n:=2) (by decide) hn)
theorem sumL_lt {n r:Nat} (hn:8≤n) (hr:r<2 ^ n):∀ (l:List UInt8) (s:Nat),s<2 ^ n→sumL r s l<2 ^ n
 | [],_,hs=>hs
 | b :: l,_,hs=>sumL_lt hn hr l _ (stp_lt hr (Nat.xor_lt_two_pow hs (byte_lt_pow hn b.toNat_lt)) 8)
theorem sumL_snoc (r s:Nat) (l:List UInt8) (b:UInt8):sumL r s (l ++ [b])=stp r 8 (sumL r s l ^^^ b.toNat):=by
 simp [sumL,List.foldl_append]
end Fcs
end Go.Proofs.YtkcghhkkepndnaaGreatDoor
namespace Go.Proofs.YtkcghhkkepndnaaGreatDoor.Hd

def mapped (a:Nat) (c:UInt8):Bool:=decide (c.toNat<32) && (a / 2 ^ c.toNat % 2 == 1)
def odd (a:Nat) (c:UInt8):Bool:=c == 0x7e || c == 0x7d || mapped a c
def stuff1 (a:Nat) (c:UInt8):List UInt8:=if odd a c then [0x7d,c ^^^ 0x20] else [c]
def stuff (a:Nat) (l:List UInt8):List UInt8:=l.flatMap (stuff1 a)
structure Fd where
 kind:Nat
 text:List UInt8
 deriving DecidableEq
structure St where
 inn:Bool
 esc:Bool
 long:Bool
 held:List UInt8
 deriving DecidableEq

theorem stuff_snoc (a:Nat) (l:List UInt8) (c:UInt8):stuff a (l ++ [c])=stuff a l ++ stuff1 a c:=by simp [stuff,List.flatMap_append]
theorem stuff_cons (a:Nat) (l:List UInt8) (c:UInt8):stuff a (c :: l)=stuff1 a c ++ stuff a l:=by simp [stuff]
theorem stuff1_le (a:Nat) (c:UInt8):(stuff1 a c).length≤2:=by unfold stuff1;split<;>simp
theorem stuff_len (a:Nat) (l:List UInt8):(stuff a l).length≤2*l.length:=by
 induction l with
 | nil=>simp [stuff]
 | cons c l ih =>
  rw [stuff_cons,List.length_append]
  have:=stuff1_le a c
  simp only [List.length_cons]
  omega
theorem odd_turn (a:Nat) (c:UInt8) (h:odd a c=true):c ^^^ 0x20≠0x7e∧mapped a (c ^^^ 0x20)=false:=by
 have h2:c=0x7e∨c=0x7d∨c.toNat<32:=by
  simp only [odd,mapped,Bool.or_eq_true,beq_iff_eq,Bool.and_eq_true,decide_eq_true_eq] at h
  rcases h with (h | h) | h
  ·exact Or.inl h
  ·exact Or.inr (Or.inl h)
  ·exact Or.inr (Or.inr h.1)
 have key:∀ c:UInt8,(c=0x7e∨c=0x7d∨c.toNat<32)→c ^^^ 0x20≠0x7e∧¬ (c ^^^ 0x20).toNat<32:=by
  intro c hc
  rcases hc with rfl | rfl | hc
  ·decide
  ·decide
  ·have:∀ n:Fin 32,(UInt8.ofNat n.1) ^^^ 0x20≠0x7e∧¬ ((UInt8.ofNat n.1) ^^^ 0x20).toNat<32:=by decide
   have h3:=this ⟨c.toNat,hc⟩
   have e:UInt8.ofNat c.toNat=c:=by simp
   simpa only [e] using h3
 obtain ⟨k1,k2⟩:=key c h2
 exact ⟨k1,by unfold mapped;rw [decide_eq_false k2];rfl⟩
theorem turn_turn (c:UInt8):c ^^^ 0x20 ^^^ 0x20=c:=by rw [UInt8.xor_assoc];simp
theorem stuff1_plain (a:Nat) (c x:UInt8) (h:x ∈ stuff1 a c):x≠0x7e∧mapped a x=false:=by
 unfold stuff1 at h
 split at h
 ·rename_i ho
  simp only [List.mem_cons,List.not_mem_nil,or_false] at h
  rcases h with rfl | rfl
  ·exact ⟨by decide,by simp [mapped]⟩
  ·exact odd_turn a c ho
 ·rename_i ho
  simp only [List.mem_cons,List.not_mem_nil,or_false] at h
  subst h
  simp only [odd,Bool.or_eq_true,not_or,beq_iff_eq] at ho
  exact ⟨ho.1.1,by simpa using ho.2⟩
theorem stuff_plain (a:Nat) (l:List UInt8) (x:UInt8) (h:x ∈ stuff a l):x≠0x7e∧mapped a x=false:=by
 simp only [stuff,List.mem_flatMap] at h
 obtain ⟨c,_,hc⟩:=h
 exact stuff1_plain a c x hc

structure Gd where
 good:List UInt8→Bool
 k:Nat

def endOf (g:Gd) (s:St):List Fd :=
 if !s.inn then []
 else if s.esc then [⟨4,[]⟩]
 else if s.held=[]∧s.long=false then []
 else if s.long then [⟨5,[]⟩]
 else if s.held.length≤g.k then [⟨3,[]⟩]
 else if !g.good s.held then [⟨2,[]⟩]
 else [⟨1,s.held.take (s.held.length - g.k)⟩]
def fnd (g:Gd) (s:St) (c:UInt8):List Fd:=if c=0x7e then endOf g s else []
def put (s:St) (c:UInt8):St:=if 304≤s.held.length then { s with esc:=false,long:=true } else { s with esc:=false,held:=s.held ++ [c] }
def nxt (a:Nat) (s:St) (c:UInt8):St :=
 if c=0x7e then ⟨true,false,false,[]⟩
 else if !s.inn || mapped a c then s
 else if c=0x7d∧s.esc=false then { s with esc:=true }
 else put s (if s.esc then c ^^^ 0x20 else c)
def run (a:Nat) (s:St) (l:List UInt8):St:=l.foldl (nxt a) s
def finds (g:Gd) (a:Nat):St→List UInt8→List Fd
 | _,[]=>[]
 | s,c :: l=>fnd g s c ++ finds g a (nxt a s c) l
def Right (s:St):Prop:=s.held.length≤304∧(s.inn=false→s.esc=false∧s.long=false∧s.held=[])

theorem run_append (a:Nat) (s:St) (l m:List UInt8):run a s (l ++ m)=run a (run a s l) m:=by simp [run]
theorem run_snoc (a:Nat) (s:St) (l:List UInt8) (c:UInt8):run a s (l ++ [c])=nxt a (run a s l) c:=by simp [run]
theorem finds_append (g:Gd) (a:Nat) (s:St) (l m:List UInt8):finds g a s (l ++ m)=finds g a s l ++ finds g a (run a s l) m:=by
 induction l generalizing s with
 | nil=>rfl
 | cons c l ih=>simp only [List.cons_append,finds,ih,List.append_assoc];rfl
theorem finds_snoc (g:Gd) (a:Nat) (s:St) (l:List UInt8) (c:UInt8):finds g a s (l ++ [c])=finds g a s l ++ fnd g (run a s l) c:=by
 rw [finds_append];simp [finds]
theorem nxt_right (a:Nat) (s:St) (c:UInt8) (h:Right s):Right (nxt a s c):=by
 obtain ⟨h1,h2⟩:=h
 unfold nxt
 split
 ·exact ⟨by simp,by simp⟩
 ·split
  ·exact ⟨h1,h2⟩
  ·rename_i hne hin
   have hi:s.inn=true:=by
    simp only [Bool.or_eq_true,not_or,Bool.not_eq_true',Bool.not_eq_false] at hin
    exact hin.1
   split
   ·exact ⟨h1,fun k=>by simp [hi] at k⟩
   ·unfold put
    split
    ·exact ⟨h1,fun k=>by simp [hi] at k⟩
    ·refine ⟨by simp;omega,fun k=>by simp [hi] at k⟩
theorem run_right (a:Nat) (l:List UInt8) (s:St) (h:Right s):Right (run a s l):=by
 induction l generalizing s with
 | nil=>exact h
 | cons c l ih=>exact ih _ (nxt_right a s c h)
theorem endOf_le (g:Gd) (s:St):(endOf g s).length≤1:=by
 unfold endOf
 repeat' split
 all_goals simp
theorem endOf_pend (g:Gd) (s:St) (h:s.esc=false) (h1:s.held=[]) (h2:s.long=false):endOf g s=[]:=by
 unfold endOf
 split
 ·rfl
 ·simp [h,h1,h2]
theorem finds_le (g:Gd) (a:Nat) (l:List UInt8) (s:St):2*(finds g a s l).length≤l.length+1:=by
 have key:∀ (l:List UInt8) (s:St),(2*(finds g a s l).length≤l.length+1)∧(s.esc=false→s.held=[]→s.long=false→2*(finds g a s l).length≤l.length):=by
  intro l
  induction l with
  | nil=>intro s;simp [finds]
  | cons c l ih =>
   intro s
   by_cases hc:c=0x7e
   ·subst hc
    have e:nxt a s 0x7e=⟨true,false,false,[]⟩:=by simp [nxt]
    have i:=(ih ⟨true,false,false,[]⟩).2 rfl rfl rfl
    have el:=endOf_le g s
    refine ⟨?_,fun h1 h2 h3=>?_⟩
    ·simp only [finds,fnd,if_true,e,List.length_append,List.length_cons]
     omega
    ·simp only [finds,fnd,if_true,e,List.length_append,List.length_cons,endOf_pend g s h1 h2 h3,List.length_nil]
     omega
   ·have i:=(ih (nxt a s c)).1
    have:2*(finds g a s (c :: l)).length≤l.length+1:=by
     simp only [finds,fnd,if_neg hc,List.nil_append]
     exact i
    simp only [List.length_cons]
    exact ⟨by omega,fun _ _ _=>by omega⟩
 exact (key l s).1
theorem take_more (n:Nat) (F x:List Fd) (hx:x.length≤1):(F ++ x).take n=if (F.take n).length<n then F.take n ++ x else F.take n:=by
 by_cases h:F.length<n
 ·rw [if_pos (by rw [List.length_take];omega),List.take_of_length_le (by simp;omega),List.take_of_length_le (by omega)]
 ·rw [if_neg (by rw [List.length_take];omega),List.take_append_of_le_length (by omega)]

theorem run_stuff (a:Nat) (l:List UInt8) (m:List UInt8) (h:m.length+l.length≤304) :
  run a ⟨true,false,false,m⟩ (stuff a l)=⟨true,false,false,m ++ l⟩:=by
 induction l generalizing m with
 | nil=>simp [stuff,run]
 | cons c l ih =>
  simp only [List.length_cons] at h
  have one:run a ⟨true,false,false,m⟩ (stuff1 a c)=⟨true,false,false,m ++ [c]⟩:=by
   unfold stuff1
   split
   ·rename_i ho
    obtain ⟨h1,h2⟩:=odd_turn a c ho
    have hm:mapped a 0x7d=false:=by simp [mapped]
    have e1:nxt a ⟨true,false,false,m⟩ 0x7d=⟨true,true,false,m⟩:=by simp [nxt,hm]
    simp only [run,List.foldl,e1]
    simp only [nxt,if_neg h1,h2,Bool.not_true,Bool.or_self,Bool.false_eq_true,if_false,Bool.true_eq_false,and_false,if_true,put,turn_turn]
    rw [if_neg (by simp;omega)]
   ·rename_i ho
    simp only [odd,Bool.or_eq_true,not_or,beq_iff_eq] at ho
    obtain ⟨⟨h1,h2⟩,h3⟩:=ho
    have h4:mapped a c=false:=by simpa using h3
    simp only [run,List.foldl,nxt,if_neg h1,h4,Bool.not_true,Bool.or_self,Bool.false_eq_true,if_false,h2,false_and,put]
    rw [if_neg (by simp;omega)]
  rw [stuff_cons,run_append,one,ih (m ++ [c]) (by simp;omega)]
  simp
theorem finds_stuff (g:Gd) (a:Nat) (l:List UInt8) (s:St):finds g a s (stuff a l)=[]:=by
 have key:∀ (m:List UInt8) (s:St),(∀ x ∈ m,x≠0x7e)→finds g a s m=[]:=by
  intro m
  induction m with
  | nil=>intro s _;rfl
  | cons c m ih =>
   intro s h
   simp only [finds,fnd,if_neg (h c (by simp)),List.nil_append]
   exact ih _ fun x hx=>h x (by simp [hx])
 exact key _ s fun x hx=>(stuff_plain a l x hx).1
def frame (a:Nat) (u:List UInt8):List UInt8:=[0x7e] ++ stuff a u ++ [0x7e]
theorem frame_found (g:Gd) (a:Nat) (t v:List UInt8) (hv:v.length=g.k) (ht:1≤t.length) (hs:(t ++ v).length≤304) (hg:g.good (t ++ v)=true) :
  finds g a ⟨false,false,false,[]⟩ (frame a (t ++ v))=[⟨1,t⟩]:=by
 have e1:run a ⟨false,false,false,[]⟩ [0x7e]=⟨true,false,false,[]⟩:=by simp [run,nxt]
 unfold frame
 rw [finds_append,finds_append,finds_stuff,run_append,e1,run_stuff a (t ++ v) [] (by simpa using hs)]
 have f1:finds g a ⟨false,false,false,[]⟩ [0x7e]=[]:=by simp [finds,fnd,endOf]
 rw [f1]
 simp only [List.nil_append,finds,fnd,if_true,List.append_nil,endOf,Bool.not_true,Bool.false_eq_true,if_false,hg]
 have hl:(t ++ v).length=t.length+g.k:=by simp [hv]
 have hne:¬ (t ++ v=[]):=fun h=>by rw [h] at hl;simp at hl;omega
 rw [if_neg (by simp [hne]),if_neg (by omega)]
 have:(t ++ v).take ((t ++ v).length - g.k)=t:=by
  rw [hl]
  simp
 rw [this]
end Go.Proofs.YtkcghhkkepndnaaGreatDoor.Hd
namespace Go.Proofs.YtkcghhkkepndnaaGreatDoor
open Go.RowKit
def accOk (x:Int):Bool:=decide (0≤x) && decide (x≤4294967295)
theorem accOk_get {x:Int} (h:accOk x=true):∃ a:Nat,x=(a:Int)∧a<4294967296:=by
 simp only [accOk,Bool.and_eq_true,decide_eq_true_eq] at h
 obtain ⟨a,ha⟩:=Int.eq_ofNat_of_zero_le h.1
 exact ⟨a,ha,by omega⟩
theorem accOk_nat {a:Nat} (h:a<4294967296):accOk (a:Int)=true:=by
 simp only [accOk,Bool.and_eq_true,decide_eq_true_eq];omega

set_option maxHeartbeats 400000 in
theorem accmRight (x:Int) (w:World):Calls Tryz.prog 111 #[.int .i64 x] w fun e w'=>e=.returned (.bool (accOk x))∧w'=w:=by
 by_cases h1:0≤x
 ·by_cases h2:x≤4294967295
  ·have d1:decide ((0:Int)≤x)=true:=decide_eq_true h1
   have d2:decide (x≤4294967295)=true:=decide_eq_true h2
   rw [show accOk x=true by simp [accOk,h1,h2]]
   go_enter Tryz.func111,Tryz.ntmps111
   go_wp2
   go_ret
   exact ⟨rfl,rfl⟩
  ·have d1:decide ((0:Int)≤x)=true:=decide_eq_true h1
   have d2:decide (x≤4294967295)=false:=decide_eq_false h2
   rw [show accOk x=false by simp [accOk,h1,h2]]
   go_enter Tryz.func111,Tryz.ntmps111
   go_wp2
   go_ret
   exact ⟨rfl,rfl⟩
 ·have d1:decide ((0:Int)≤x)=false:=decide_eq_false h1
  rw [show accOk x=false by simp [accOk,h1]]
  go_enter Tryz.func111,Tryz.ntmps111
  go_wp2
  go_ret
  exact ⟨rfl,rfl⟩
set_option maxHeartbeats 400000 in
theorem specAccm (x:Int) (w:World):Calls Tryz.prog 99 #[.int .i64 x] w fun e w'=>e=.returned (.bool (accOk x))∧w'=w:=by
 by_cases h1:0≤x
 ·by_cases h2:x≤4294967295
  ·have d1:decide ((0:Int)≤x)=true:=decide_eq_true h1
   have d2:decide (x≤4294967295)=true:=decide_eq_true h2
   rw [show accOk x=true by simp [accOk,h1,h2]]
   go_enter Tryz.func99,Tryz.ntmps99
   go_wp2
   go_ret
   exact ⟨rfl,rfl⟩
  ·have d1:decide ((0:Int)≤x)=true:=decide_eq_true h1
   have d2:decide (x≤4294967295)=false:=decide_eq_false h2
   rw [show accOk x=false by simp [accOk,h1,h2]]
   go_enter Tryz.func99,Tryz.ntmps99
   go_wp2
   go_ret
   exact ⟨rfl,rfl⟩
 ·have d1:decide ((0:Int)≤x)=false:=decide_eq_false h1
  rw [show accOk x=false by simp [accOk,h1]]
  go_enter Tryz.func99,Tryz.ntmps99
  go_wp2
  go_ret
  exact ⟨rfl,rfl⟩

theorem shr_and (a n:Nat) (ha:a<4294967296):(bits .and .i64 ((a:Int) / 2 ^ n) 1 == 1)=(a / 2 ^ n % 2 == 1):=by
 have hlt:a / 2 ^ n<4294967296:=Nat.lt_of_le_of_lt (Nat.div_le_self _ _) ha
 have h:=i64_and_nat (a / 2 ^ n) 1 (by omega) (by decide)
 rw [nat_mask1] at h
 have e:((a:Int) / 2 ^ n)=((a / 2 ^ n:Nat):Int):=by simp
 rw [e]
 have h':bits .and .i64 ((a / 2 ^ n:Nat):Int) 1=((a / 2 ^ n % 2:Nat):Int):=h
 rw [h']
 rcases Nat.mod_two_eq_zero_or_one (a / 2 ^ n) with h0 | h0<;>rw [h0]<;>rfl
set_option maxHeartbeats 400000 in
theorem implMapped (a:Nat) (c:UInt8) (B:Nat) (w:World) (ha:a<4294967296) (hB:w.cell? ⟨B,0,none⟩=some (.int .i64 a)) :
  Calls Tryz.prog 134 #[.int .u8 c.toNat,.pointer (some ⟨B,0,none⟩)] w fun e w'=>e=.returned (.bool (Hd.mapped a c))∧w'=w:=by
 have hc:=c.toNat_lt
 unfold Hd.mapped
 generalize c.toNat=n at *
 by_cases h1:n<32
 ·have d1:decide ((n:Int)<32)=true:=decide_eq_true (by omega)
  rw [decide_eq_true h1,Bool.true_and]
  go_enter Tryz.func134,Tryz.ntmps134
  go_wp2
  go_ret
  exact ⟨ret_bool (shr_and a n ha),rfl⟩
 ·have d1:decide ((n:Int)<32)=false:=decide_eq_false (by omega)
  rw [decide_eq_false h1,Bool.false_and]
  go_enter Tryz.func134,Tryz.ntmps134
  go_wp2
  go_ret
  exact ⟨rfl,rfl⟩
set_option maxHeartbeats 400000 in
theorem specMapped (a:Nat) (c:UInt8) (w:World) (ha:a<4294967296) :
  Calls Tryz.prog 104 #[.int .u8 c.toNat,.int .i64 a] w fun e w'=>e=.returned (.bool (Hd.mapped a c))∧w'=w:=by
 have hc:=c.toNat_lt
 unfold Hd.mapped
 generalize c.toNat=n at *
 by_cases h1:n<32
 ·have d1:decide ((n:Int)<32)=true:=decide_eq_true (by omega)
  rw [decide_eq_true h1,Bool.true_and]
  go_enter Tryz.func104,Tryz.ntmps104
  go_wp2
  go_ret
  exact ⟨ret_bool (shr_and a n ha),rfl⟩
 ·have d1:decide ((n:Int)<32)=false:=decide_eq_false (by omega)
  rw [decide_eq_false h1,Bool.false_and]
  go_enter Tryz.func104,Tryz.ntmps104
  go_wp2
  go_ret
  exact ⟨rfl,rfl⟩
set_option maxHeartbeats 400000 in
theorem mappedBy (a:Nat) (w:World) :
  Calls Tryz.prog 117 #[.int .i64 a] w fun e w'=>e=.returned (.func (.func 134) #[] #[.pointer (some ⟨w.heap.size,0,none⟩)])∧w'=w.alloc (.cells #[.int .i64 a] 2):=by
 have hmf:∀ (fn:Fn) (first cap:Array Value) (w:World),(Instr.makeFunc fn first cap).run Tryz.prog w=.ok (.func fn first cap) w:=fun _ _ _ _=>rfl
 go_enter Tryz.func117,Tryz.ntmps117
 go_wp2
 go_ret
 exact ⟨rfl,rfl⟩
end Go.Proofs.YtkcghhkkepndnaaGreatDoor
namespace Go.Proofs.YtkcghhkkepndnaaGreatDoor
open Go.RowKit
theorem and1_u16 (n:Nat) (h:n<65536):bits .and .u16 (n:Int) 1=((n % 2:Nat):Int):=by
 have:=u16_and_nat n 1 h (by decide)
 rw [nat_mask1] at this
 exact this
theorem xor2_u16 (n r:Nat) (h:n<65536) (hr:r<65536):bits .xor .u16 ((n:Int) / 2) (r:Int)=((n / 2 ^^^ r:Nat):Int):=by
 have:=u16_xor_nat (n / 2) r (by omega) hr
 rw [← this]
 rfl
theorem stp_lt_u16 (r s k:Nat) (hs:s<65536) (hr:r<65536):Fcs.stp r k s<65536:=Fcs.stp_lt (n:=16) hr hs k
set_option maxHeartbeats 400000 in
theorem shift_u16 (s r:Nat) (w:World) (hs:s<65536) (hr:r<65536) :
  Calls Tryz.prog 144 #[.int .u16 s,.int .u16 r] w fun e w'=>e=.returned (.int .u16 (Fcs.stp r 8 s:Nat))∧w'=w:=by
 go_enter Tryz.func144,Tryz.ntmps144
 go_wp2
 go_loop [0,6] (fun x i=>∃ (k:Nat),k≤8∧i=.int .i64 k∧x=.int .u16 (Fcs.stp r k s:Nat)) (fun _ i=>8 - (intOf i).toNat)
 case atStart=>exact ⟨0,by omega,rfl,rfl⟩
 case round =>
  obtain ⟨k,hk,rfl,rfl⟩:=hrel
  have hn:=stp_lt_u16 r s k hs hr
  have HS:Hid (Fcs.stp r (k+1) s=Fcs.step r (Fcs.stp r k s)):=hide rfl
  generalize hg:Fcs.stp r k s=n at *
  have HG:=hide hg
  clear hg
  by_cases hlt:k<8
  ·by_cases hodd:n % 2=1
   ·have hb:(bits .and .u16 (n:Int) 1 == 1)=true:=by rw [and1_u16 n hn,hodd];rfl
    have HB:=hide hodd
    clear hodd
    go_wp2
    go_round
    case rel=>exact ⟨k+1,by omega,by go_num,by rw [uh HS,xor2_u16 n r hn hr,Fcs.step,if_pos (uh HB)]⟩
    case measure=>simp [intOf];omega
   ·have hb:(bits .and .u16 (n:Int) 1 == 1)=false:=by
     rw [and1_u16 n hn,show n % 2=0 by omega];rfl
    have HB:=hide hodd
    clear hodd
    go_wp2
    go_round
    case rel=>exact ⟨k+1,by omega,by go_num,by rw [uh HS,Fcs.step,if_neg (uh HB)];rfl⟩
    case measure=>simp [intOf];omega
  ·have e8:k=8:=by omega
   have HK:=hide e8
   clear e8
   go_wp2
   go_ret
   refine ⟨ret_int ?_,rfl⟩
   rw [← uh HG,uh HK]
theorem and1_u32 (n:Nat) (h:n<4294967296):bits .and .u32 (n:Int) 1=((n % 2:Nat):Int):=by
 have:=u32_and_nat n 1 h (by decide)
 rw [nat_mask1] at this
 exact this
theorem xor2_u32 (n r:Nat) (h:n<4294967296) (hr:r<4294967296):bits .xor .u32 ((n:Int) / 2) (r:Int)=((n / 2 ^^^ r:Nat):Int):=by
 have:=u32_xor_nat (n / 2) r (by omega) hr
 rw [← this]
 rfl
theorem stp_lt_u32 (r s k:Nat) (hs:s<4294967296) (hr:r<4294967296):Fcs.stp r k s<4294967296:=Fcs.stp_lt (n:=32) hr hs k
set_option maxHeartbeats 400000 in
theorem shift_u32 (s r:Nat) (w:World) (hs:s<4294967296) (hr:r<4294967296) :
  Calls Tryz.prog 142 #[.int .u32 s,.int .u32 r] w fun e w'=>e=.returned (.int .u32 (Fcs.stp r 8 s:Nat))∧w'=w:=by
 go_enter Tryz.func142,Tryz.ntmps142
 go_wp2
 go_loop [0,6] (fun x i=>∃ (k:Nat),k≤8∧i=.int .i64 k∧x=.int .u32 (Fcs.stp r k s:Nat)) (fun _ i=>8 - (intOf i).toNat)
 case atStart=>exact ⟨0,by omega,rfl,rfl⟩
 case round =>
  obtain ⟨k,hk,rfl,rfl⟩:=hrel
  have hn:=stp_lt_u32 r s k hs hr
  have HS:Hid (Fcs.stp r (k+1) s=Fcs.step r (Fcs.stp r k s)):=hide rfl
  generalize hg:Fcs.stp r k s=n at *
  have HG:=hide hg
  clear hg
  by_cases hlt:k<8
  ·by_cases hodd:n % 2=1
   ·have hb:(bits .and .u32 (n:Int) 1 == 1)=true:=by rw [and1_u32 n hn,hodd];rfl
    have HB:=hide hodd
    clear hodd
    go_wp2
    go_round
    case rel=>exact ⟨k+1,by omega,by go_num,by rw [uh HS,xor2_u32 n r hn hr,Fcs.step,if_pos (uh HB)]⟩
    case measure=>simp [intOf];omega
   ·have hb:(bits .and .u32 (n:Int) 1 == 1)=false:=by
     rw [and1_u32 n hn,show n % 2=0 by omega];rfl
    have HB:=hide hodd
    clear hodd
    go_wp2
    go_round
    case rel=>exact ⟨k+1,by omega,by go_num,by rw [uh HS,Fcs.step,if_neg (uh HB)];rfl⟩
    case measure=>simp [intOf];omega
  ·have e8:k=8:=by omega
   have HK:=hide e8
   clear e8
   go_wp2
   go_ret
   refine ⟨ret_int ?_,rfl⟩
   rw [← uh HG,uh HK]
end Go.Proofs.YtkcghhkkepndnaaGreatDoor
