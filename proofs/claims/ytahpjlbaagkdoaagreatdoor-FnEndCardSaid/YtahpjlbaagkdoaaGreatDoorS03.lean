/- AskC Cfg NumH RepNum SizeK LnM Row6 VerdC RuleOf -/
import Derived.Test.YtahpjlbaagkdoaaGreatDoorS02
set_option maxHeartbeats 2000000
set_option maxRecDepth 100000
namespace Go.Proofs.YtahpjlbaagkdoaaGreatDoor
open Go.RowKit Go.Proofs.Tryz
theorem below_drewN {n:Nat} {w W:World} (h:Below n w W) (k:Nat):Below n w (W.drewN k):=⟨h.os,h.tape,h.output,h.size,h.block⟩
abbrev cfgV (m a g:Int) (p c d:Bool):Value:=.agg #[.int .i64 m,.int .i64 a,.int .i64 g,.bool p,.bool c,.bool d]
theorem cf_of {f : Nat} (h : (prog.funcs[f]?).map (fun fn => (fn.name == "runtime.NumGoroutine") || fn.body.isNone) = some false) (args : Array Value) (W : World) : (callFunc f args).run prog W = .ok (.enter f args) W := by
 obtain ⟨fn,hf,h2⟩:=Option.map_eq_some_iff.1 h;rw [Bool.or_eq_false_iff] at h2;unfold callFunc;have h3 : ¬ (fn.name = "runtime.NumGoroutine") := beq_eq_false_iff_ne.1 h2.1
 have h4:¬ (fn.body=none):=fun e=>by rw [e] at h2;exact absurd h2.2 (by decide)
 simp [go_sem,hf,h3,h4]
def within (lo hi x:Int):Bool:=decide (lo≤x) && decide (x≤hi)
def cfgOk (m a g:Int):Bool:=within 64 300 m && (within 0 4294967295 a && within 0 4294967295 g)
theorem mruRight (x:Int) (w:World):Calls prog 109 #[.int .i64 x] w fun e w'=>e=.returned (.bool (within 64 300 x))∧w'=w:=by
 by_cases h1:64≤x
 ·have d1:decide ((64:Int)≤x)=true:=decide_eq_true h1;by_cases h2:x≤300
  ·have d2:decide (x≤300)=true:=decide_eq_true h2;rw [show within 64 300 x=true by simp [within,h1,h2]];go_enter func109,ntmps109
   go_wp2
   go_ret
   exact ⟨rfl,rfl⟩
  ·have d2:decide (x≤300)=false:=decide_eq_false h2;rw [show within 64 300 x=false by simp [within,h2]];go_enter func109,ntmps109
   go_wp2
   go_ret
   exact ⟨rfl,rfl⟩
 ·have d1:decide ((64:Int)≤x)=false:=decide_eq_false h1;rw [show within 64 300 x=false by simp [within,h1]];go_enter func109,ntmps109
  go_wp2
  go_ret
  exact ⟨rfl,rfl⟩
theorem accmRight (x:Int) (w:World):Calls prog 110 #[.int .i64 x] w fun e w'=>e=.returned (.bool (within 0 4294967295 x))∧w'=w:=by
 by_cases h1:0≤x
 ·have d1:decide ((0:Int)≤x)=true:=decide_eq_true h1;by_cases h2:x≤4294967295
  ·have d2:decide (x≤4294967295)=true:=decide_eq_true h2;rw [show within 0 4294967295 x=true by simp [within,h1,h2]];go_enter func110,ntmps110
   go_wp2
   go_ret
   exact ⟨rfl,rfl⟩
  ·have d2:decide (x≤4294967295)=false:=decide_eq_false h2;rw [show within 0 4294967295 x=false by simp [within,h2]];go_enter func110,ntmps110
   go_wp2
   go_ret
   exact ⟨rfl,rfl⟩
 ·have d1:decide ((0:Int)≤x)=false:=decide_eq_false h1;rw [show within 0 4294967295 x=false by simp [within,h1]];go_enter func110,ntmps110
  go_wp2
  go_ret
  exact ⟨rfl,rfl⟩
theorem specIs (x:Int) (lo hi:Int) (w:World):Calls prog 72 #[.int .i64 x,.int .i64 lo,.int .i64 hi] w fun e w'=>e=.returned (.bool (within lo hi x))∧w'=w:=by
 by_cases h1:lo≤x
 ·have d1:decide ((lo:Int)≤x)=true:=decide_eq_true h1;by_cases h2:x≤hi
  ·have d2:decide (x≤hi)=true:=decide_eq_true h2;rw [show within lo hi x=true by simp [within,h1,h2]];go_enter func72,ntmps72
   go_wp2
   go_ret
   exact ⟨rfl,rfl⟩
  ·have d2:decide (x≤hi)=false:=decide_eq_false h2;rw [show within lo hi x=false by simp [within,h2]];go_enter func72,ntmps72
   go_wp2
   go_ret
   exact ⟨rfl,rfl⟩
 ·have d1:decide ((lo:Int)≤x)=false:=decide_eq_false h1;rw [show within lo hi x=false by simp [within,h1]];go_enter func72,ntmps72
  go_wp2
  go_ret
  exact ⟨rfl,rfl⟩
theorem specAccm (x:Int) (w:World):Calls prog 107 #[.int .i64 x] w fun e w'=>e=.returned (.bool (within 0 4294967295 x))∧w'=w:=by
 have C:=hide (specIs x 0 4294967295 w);generalize within 0 4294967295 x=ok at *;go_enter func107,ntmps107
 go_wp2_with (first
  | (go_at_call 72;refine (uh C).mono ?_;rintro e w1 ⟨rfl,rfl⟩))
 go_ret
 exact ⟨rfl,rfl⟩
theorem cfgOk_eq (m a g:Int) (h1:within 64 300 m=true) (h2:within 0 4294967295 a=true):cfgOk m a g=within 0 4294967295 g:=by
 unfold cfgOk;rw [h1,h2,Bool.true_and,Bool.true_and]
theorem implCfg (m a g:Int) (p c d:Bool) (w:World):Calls prog 77 #[.agg #[.int .i64 m,.int .i64 a,.int .i64 g,.bool p,.bool c,.bool d]] w fun e w'=>e=.returned (.bool (cfgOk m a g))∧Below w.heap.size w w':=by
 have C1:=hide fun v=>mruRight m v
 have C2:=hide fun v=>accmRight a v
 by_cases h1:within 64 300 m=true
 ·by_cases h2:within 0 4294967295 a=true
  ·rw [cfgOk_eq m a g h1 h2];rw [h1] at C1;rw [h2] at C2;by_cases h3:0≤g
   ·have d1:decide ((0:Int)≤g)=true:=decide_eq_true h3;by_cases h4:g≤4294967295
    ·have d2:decide (g≤4294967295)=true:=decide_eq_true h4;rw [show within 0 4294967295 g=true by simp [within,h3,h4]];go_enter func77,ntmps77
     go_wp2_with (first
      | (go_at_call 109;refine (uh C1 _).mono ?_;rintro e w1 ⟨rfl,rfl⟩)
      | (go_at_call 110;refine (uh C2 _).mono ?_;rintro e w2 ⟨rfl,rfl⟩))
     go_ret
     exact ⟨rfl,(Below.refl _ _).alloc (Nat.le_refl _) _⟩
    ·have d2:decide (g≤4294967295)=false:=decide_eq_false h4;rw [show within 0 4294967295 g=false by simp [within,h4]];go_enter func77,ntmps77
     go_wp2_with (first
      | (go_at_call 109;refine (uh C1 _).mono ?_;rintro e w1 ⟨rfl,rfl⟩)
      | (go_at_call 110;refine (uh C2 _).mono ?_;rintro e w2 ⟨rfl,rfl⟩))
     go_ret
     exact ⟨rfl,(Below.refl _ _).alloc (Nat.le_refl _) _⟩
   ·have d1:decide ((0:Int)≤g)=false:=decide_eq_false h3;rw [show within 0 4294967295 g=false by simp [within,h3]];go_enter func77,ntmps77
    go_wp2_with (first
     | (go_at_call 109;refine (uh C1 _).mono ?_;rintro e w1 ⟨rfl,rfl⟩)
     | (go_at_call 110;refine (uh C2 _).mono ?_;rintro e w2 ⟨rfl,rfl⟩))
    go_ret
    exact ⟨rfl,(Below.refl _ _).alloc (Nat.le_refl _) _⟩
  ·rw [Bool.not_eq_true] at h2;rw [show cfgOk m a g=false by simp [cfgOk,h2]];rw [h1] at C1;rw [h2] at C2;go_enter func77,ntmps77
   go_wp2_with (first
    | (go_at_call 109;refine (uh C1 _).mono ?_;rintro e w1 ⟨rfl,rfl⟩)
    | (go_at_call 110;refine (uh C2 _).mono ?_;rintro e w2 ⟨rfl,rfl⟩))
   go_ret
   exact ⟨rfl,(Below.refl _ _).alloc (Nat.le_refl _) _⟩
 ·rw [Bool.not_eq_true] at h1;rw [show cfgOk m a g=false by simp [cfgOk,h1]];rw [h1] at C1;clear C2;go_enter func77,ntmps77
  go_wp2_with (first
   | (go_at_call 109;refine (uh C1 _).mono ?_;rintro e w1 ⟨rfl,rfl⟩))
  go_ret
  exact ⟨rfl,(Below.refl _ _).alloc (Nat.le_refl _) _⟩
theorem specCfg (m a g:Int) (p c d:Bool) (w:World):Calls prog 71 #[.agg #[.int .i64 m,.int .i64 a,.int .i64 g,.bool p,.bool c,.bool d]] w fun e w'=>e=.returned (.bool (cfgOk m a g))∧Below w.heap.size w w':=by
 have C1:=hide fun v=>specIs m 64 300 v
 have C2:=hide fun v=>specAccm a v
 have C3:=hide fun v=>specIs g 0 4294967295 v
 unfold cfgOk;generalize within 64 300 m=b1 at *;generalize within 0 4294967295 a=b2 at *;generalize within 0 4294967295 g=b3 at *;cases b1
 ·go_enter func71,ntmps71
  go_wp2_with fail
  refine (uh C1 _).mono ?_;rintro e w1 ⟨rfl,rfl⟩;go_wp2
  go_ret
  exact ⟨rfl,(Below.refl _ _).alloc (Nat.le_refl _) _⟩
 cases b2
 ·go_enter func71,ntmps71
  go_wp2_with fail
  refine (uh C1 _).mono ?_;rintro e w1 ⟨rfl,rfl⟩;go_wp2_with fail
  refine (uh C2 _).mono ?_;rintro e w2 ⟨rfl,rfl⟩;go_wp2
  go_ret
  exact ⟨rfl,(Below.refl _ _).alloc (Nat.le_refl _) _⟩
 ·go_enter func71,ntmps71
  go_wp2_with fail
  refine (uh C1 _).mono ?_;rintro e w1 ⟨rfl,rfl⟩;go_wp2_with fail
  refine (uh C2 _).mono ?_;rintro e w2 ⟨rfl,rfl⟩;go_wp2_with fail
  refine (uh C3 _).mono ?_;rintro e w3 ⟨rfl,rfl⟩;go_wp2
  go_ret
  exact ⟨rfl,(Below.refl _ _).alloc (Nat.le_refl _) _⟩
theorem numOf_go (l:List UInt8) (n:Nat):l.foldl (fun n c=>256*n+c.toNat) n<(n+1)*256 ^ l.length:=by
 induction l generalizing n with
 | nil=>simp
 | cons c l ih =>
  have h:=ih (256*n+c.toNat);have hc:=c.toNat_lt;rw [List.foldl_cons,List.length_cons,Nat.pow_succ,Nat.mul_comm (256 ^ l.length) 256,← Nat.mul_assoc];exact Nat.lt_of_lt_of_le h (Nat.mul_le_mul_right _ (by omega))
theorem numOf_lt (l:List UInt8):numOf l<256 ^ l.length:=by
 have:=numOf_go l 0
 rw [Nat.zero_add,Nat.one_mul] at this;exact this
theorem numOf_lt3 (l:List UInt8) (h:l.length<4):numOf l<16777216:=by
 have h1:=numOf_lt l;have h2:256 ^ l.length≤256 ^ 3:=Nat.pow_le_pow_right (by decide) (by omega);omega
theorem numOf_lt4 (l:List UInt8) (h:l.length≤4):numOf l<4294967296:=by
 have h1:=numOf_lt l;have h2:256 ^ l.length≤256 ^ 4:=Nat.pow_le_pow_right (by decide) h;omega
theorem or8w (a b:Nat) (ha:a<16777216) (hb:b<256):bits .or .i64 ((a:Int)*256) (b:Int)=((256*a+b:Nat):Int):=by
 have h1:a*256 ||| b=a*2 ^ 8+b:=by
  rw [Nat.mul_comm,show (256:Nat)=2 ^ 8 from rfl,← Nat.two_pow_add_eq_or_of_lt (by omega),Nat.mul_comm]
 show IntKind.i64.wrap ((BitVec.ofInt 64 ((a:Int)*256) ||| BitVec.ofInt 64 (b:Int)).toNat:Int)=_
 rw [show (a:Int)*256=((a*256:Nat):Int) by omega,BitVec.toNat_or,ofInt_u64 (a*256) (by omega),ofInt_u64 b (by omega),h1,IntKind.wrap_i64];omega
theorem i64_or_nat (a b:Nat) (ha:a<4294967296) (hb:b<4294967296):bits .or .i64 (a:Int) (b:Int)=((a ||| b:Nat):Int):=by
 have h3:a ||| b<2 ^ 32:=Nat.or_lt_two_pow (by omega) (by omega)
 show IntKind.i64.wrap ((BitVec.ofInt 64 (a:Int) ||| BitVec.ofInt 64 (b:Int)).toNat:Int)=_
 rw [BitVec.toNat_or,ofInt_u64 a (by omega),ofInt_u64 b (by omega),IntKind.wrap_i64];omega
theorem numOf_snoc (l:List UInt8) (k:Nat) (hlt:k<l.length):numOf (l.take (k+1))=256*numOf (l.take k)+l[k].toNat:=by
 unfold numOf;rw [List.take_succ_eq_append_getElem hlt,List.foldl_append];rfl
theorem highest4 (B off cap:Nat) (l:List UInt8) (w:World) (hl4:l.length≤4) (hl:Lies w B off l) :
  Calls prog 151 #[.slice (some ⟨B,off,none⟩) l.length cap] w fun e w'=>e=.returned (.int .i64 (numOf l:Nat))∧w'=w:=by
 go_enter func151,ntmps151
 go_wp2
 go_loop [3,8] (fun n i=>∃ (k:Nat),k≤l.length∧i=.int .i64 k∧n=.int .i64 (numOf (l.take k):Nat)) (fun _ i=>l.length - (intOf i).toNat)
 case atStart=>exact ⟨0,Nat.zero_le _,rfl,rfl⟩
 case round =>
  obtain ⟨k,hk,rfl,rfl⟩:=hrel;by_cases hlt:k<l.length
  ·have hc:=hl k hlt;have HS:=hide (numOf_snoc l k hlt);have hn:numOf (l.take k)<16777216:=numOf_lt3 _ (by rw [List.length_take];omega);have ho:=or8w (numOf (l.take k)) l[k].toNat hn l[k].toNat_lt;have HW:Hid (wrap64 (l[k].toNat:Int)=(l[k].toNat:Int)):=hide (by have:=l[k].toNat_lt;unfold wrap64;omega);generalize numOf (l.take k)=n at *;have d1:(k:Int)<(l.length:Int):=by omega
   clear hl;go_wp2
   go_round
   case rel=>exact ⟨k+1,by omega,by go_num,by rw [uh HW,ho,uh HS]⟩
   case measure=>simp [intOf];omega
  ·have HK:=hide (List.take_of_length_le (l:=l) (i:=k) (by omega));have d1:¬ ((k:Int)<(l.length:Int)):=by omega
   go_wp2
   go_ret
   exact ⟨by rw [uh HK];rfl,rfl⟩
theorem specGetYes (t:ByteArray) (many:Nat) (w:World) (hm:many≤4) (h:t.size=many) :
  Calls prog 108 #[.string t,.int .i64 many] w fun e w'=>e=.returned (.tuple #[.int .i64 (numOf t.data.toList:Nat),.bool true])∧w'=w:=by
 subst h;have d0:((t.size:Int) == (t.size:Int))=true:=beq_self_eq_true _;go_enter func108,ntmps108
 go_wp2_with fail
 go_loop [6,7] (fun n i=>∃ k:Nat,k≤t.size∧i=.int .i64 k∧n=.int .i64 (numOf (t.data.toList.take k):Nat)) (fun _ i=>t.size - (intOf i).toNat)
 case atStart=>exact ⟨0,Nat.zero_le _,rfl,rfl⟩
 case round =>
  obtain ⟨k,hk,rfl,rfl⟩:=hrel;by_cases hlt:k<t.size
  ·have hl2:k<t.data.toList.length:=by rw [len_dat];exact hlt
   have HS:Hid (numOf (t.data.toList.take (k+1))=256*numOf (t.data.toList.take k)+(t[k]'hlt).toNat):=hide (numOf_snoc t.data.toList k hl2);have hn:numOf (t.data.toList.take k)<16777216:=numOf_lt3 _ (by rw [List.length_take];omega);have hc:=(t[k]'hlt).toNat_lt;generalize numOf (t.data.toList.take k)=n at *;have d1:decide ((k:Int)<(t.size:Int))=true:=decide_eq_true (by omega);clear hl2;go_wp2
   go_round
   case rel=>exact ⟨k+1,by omega,by go_num,by rw [uh HS];congr 1⟩
   case measure=>simp [intOf];omega
  ·have e:k=t.size:=by omega
   subst e;have HK:=hide (List.take_of_length_le (l:=t.data.toList) (i:=t.size) (by rw [len_dat];omega));have d1:decide ((t.size:Int)<(t.size:Int))=false:=decide_eq_false (by omega);go_wp2
   go_ret2
   exact ⟨by rw [uh HK];rfl,rfl⟩
theorem and_or (n a:Nat):(n &&& a=a)↔(n ||| a=n):=by
 constructor
 ·intro h;apply Nat.eq_of_testBit_eq
  intro i;have hi:(n &&& a).testBit i=a.testBit i:=by rw [h]
  rw [Nat.testBit_and] at hi;rw [Nat.testBit_or];revert hi
  cases n.testBit i<;>cases a.testBit i<;>simp
 ·intro h;apply Nat.eq_of_testBit_eq
  intro i;have hi:(n ||| a).testBit i=n.testBit i:=by rw [h]
  rw [Nat.testBit_or] at hi;rw [Nat.testBit_and];revert hi
  cases n.testBit i<;>cases a.testBit i<;>simp
theorem numberOf (k:Int) (t:ByteArray) (w:World) (ht:t.size≤4) :
  Calls prog 135 #[.agg #[.int .i64 k,.string t]] w fun e w'=>e=.returned (.int .i64 (numOf t.data.toList:Nat))∧Below w.heap.size w w':=by
 have hq:∃ q,w.alloc (.cells #[.int .i64 k,.string t] 116)=q:=⟨_,rfl⟩;obtain ⟨q,hq⟩:=hq;obtain ⟨cap,W',hcv,hcap,hli,hb,hs⟩:=bytes_of t q;have C:=hide (highest4 q.heap.size 0 cap t.data.toList W' (by rw [len_dat];exact ht) hli);subst hq;have HB:Hid (Below w.heap.size w W'):=hide (((Below.refl _ _).alloc (Nat.le_refl _) _).trans (hb.mono (by simp)));have hs0:(w.alloc (.cells #[.int .i64 k,.string t] 116)).heap.size=w.heap.size+1:=by simp
 rw [hs0] at hcv C;clear hb hs hli hcap hs0;go_enter func135,ntmps135
 go_wp2_with fail
 refine (uh C).mono ?_;rintro e w2 ⟨rfl,rfl⟩;go_wp2
 go_ret
 exact ⟨rfl,uh HB⟩
theorem specGetNo (t:ByteArray) (many:Nat) (w:World) (ht:t.size≤20) (h:t.size≠many) :
  Calls prog 108 #[.string t,.int .i64 many] w fun e w'=>e=.returned (.tuple #[.int .i64 0,.bool false])∧w'=w:=by
 have d0:((t.size:Int) == (many:Int))=false:=beq_eq_false_iff_ne.2 (by omega);by_cases h0:0<t.size
 ·have d1:decide ((0:Int)<(t.size:Int))=true:=decide_eq_true (by omega);go_enter func108,ntmps108
  go_wp2_with fail
  go_loop [6,7] (fun n i=>i=.int .i64 0∧n=.int .i64 0) (fun _ _=>0)
  case atStart=>exact ⟨rfl,rfl⟩
  case round =>
   obtain ⟨rfl,rfl⟩:=hrel;go_wp2
   go_ret2
   exact ⟨rfl,rfl⟩
 ·have d1:decide ((0:Int)<(t.size:Int))=false:=decide_eq_false (by omega);go_enter func108,ntmps108
  go_wp2_with fail
  go_loop [6,7] (fun n i=>i=.int .i64 0∧n=.int .i64 0) (fun _ _=>0)
  case atStart=>exact ⟨rfl,rfl⟩
  case round =>
   obtain ⟨rfl,rfl⟩:=hrel;go_wp2
   go_ret2
   exact ⟨rfl,rfl⟩
end Go.Proofs.YtahpjlbaagkdoaaGreatDoor
namespace Go.Proofs.YtahpjlbaagkdoaaGreatDoor
open Go.Proofs.Tryz
def sizeK (k:Int):Option Nat:=if k=1 then some 2 else if k=2 then some 4 else if k=5 then some 4 else if k=7 then some 0 else if k=8 then some 0 else if k=9 then some 1 else none
theorem sizeK_le {k:Int} {s:Nat} (h:sizeK k=some s):s≤4:=by
 unfold sizeK at h;repeat' split at h
 all_goals first | (cases h;omega) | (cases h)
end Go.Proofs.YtahpjlbaagkdoaaGreatDoor
namespace Go.Proofs.YtahpjlbaagkdoaaGreatDoor
open Go.RowKit Go.Proofs.Tryz
structure Ln where
 m:Nat
 a:Nat
 p:Bool
 c:Bool
 d:Bool
abbrev lnC (x:Ln):Array Value:=#[.int .i64 x.m,.int .i64 x.a,.bool x.p,.bool x.c,.bool x.d]
def lnK (k:Int) (x:Ln) (n:Nat):Ln :=
 if k=1 then (if within 64 300 (n:Int)=true then { x with m:=n } else x) else if k=2 then { x with a:=n } else if k=7 then { x with p:=true } else if k=8 then { x with c:=true } else if k=9 then { x with d:=x.d || ((n:Int) == 4) } else x
def lnOne (x:Ln) (o:Op.Opt):Ln:=if sizeK o.kind=some o.data.size then lnK o.kind x (numOf o.data.data.toList) else x
def lineF (F:List Op.Opt):Ln:=F.foldl lnOne ⟨300,4294967295,false,false,false⟩
def lineOf (F:List Op.Opt):Ln:=if Op.right F=true then lineF F else ⟨0,0,false,false,false⟩
theorem lineF_snoc (F:List Op.Opt) (i:Nat) (hi:i<F.length):lineF (F.take (i+1))=lnOne (lineF (F.take i)) F[i]:=by
 unfold lineF;rw [List.take_succ_eq_append_getElem hi,List.foldl_append];rfl
theorem line1 (x:Ln) (n:Nat) (w:World):Calls prog 168 #[.agg (lnC x),.int .i64 n] w fun e w'=>e=.returned (.agg (lnC (lnK 1 x n)))∧Below w.heap.size w w':=by
 have C:=hide fun v=>mruRight (n:Int) v
 obtain ⟨m,a,p,c,d⟩:=x;unfold lnK;rw [if_pos rfl];cases hq:within 64 300 (n:Int)
 ·rw [if_neg (by decide)];rw [hq] at C;unfold lnC;dsimp only;go_enter func168,ntmps168
  go_wp2_with (first | (go_at_call 109;refine (uh C _).mono ?_;rintro e w1 ⟨rfl,rfl⟩))
  exact bodyPost_ret (v:=.agg #[.int .i64 m,.int .i64 a,.bool p,.bool c,.bool d]) (by simp [results,results168,go_sem]) rfl ⟨rfl,((Below.refl _ _).alloc (Nat.le_refl _) _).alloc (by simp) _⟩
 ·rw [if_pos rfl];rw [hq] at C;unfold lnC;dsimp only;go_enter func168,ntmps168
  go_wp2_with (first | (go_at_call 109;refine (uh C _).mono ?_;rintro e w1 ⟨rfl,rfl⟩))
  exact bodyPost_ret (v:=.agg #[.int .i64 n,.int .i64 a,.bool p,.bool c,.bool d]) (by simp [results,results168,go_sem]) rfl ⟨rfl,((Below.refl _ _).alloc (Nat.le_refl _) _).alloc (by simp) _⟩
theorem line2 (x:Ln) (n:Nat) (w:World):Calls prog 173 #[.agg (lnC x),.int .i64 n] w fun e w'=>e=.returned (.agg (lnC (lnK 2 x n)))∧Below w.heap.size w w':=by
 obtain ⟨m,a,p,c,d⟩:=x;show Calls prog 173 #[.agg #[.int .i64 m,.int .i64 a,.bool p,.bool c,.bool d],.int .i64 n] w fun e w'=>e=.returned (.agg #[.int .i64 m,.int .i64 n,.bool p,.bool c,.bool d])∧Below w.heap.size w w'
 go_enter func173,ntmps173
 go_wp2
 exact bodyPost_ret (v:=.agg #[.int .i64 m,.int .i64 n,.bool p,.bool c,.bool d]) (by simp [results,results173,go_sem]) rfl ⟨rfl,((Below.refl _ _).alloc (Nat.le_refl _) _).alloc (by simp) _⟩
theorem line5 (x:Ln) (n:Nat) (w:World):Calls prog 179 #[.agg (lnC x),.int .i64 n] w fun e w'=>e=.returned (.agg (lnC (lnK 5 x n)))∧Below w.heap.size w w':=by
 obtain ⟨m,a,p,c,d⟩:=x;show Calls prog 179 #[.agg #[.int .i64 m,.int .i64 a,.bool p,.bool c,.bool d],.int .i64 n] w fun e w'=>e=.returned (.agg #[.int .i64 m,.int .i64 a,.bool p,.bool c,.bool d])∧Below w.heap.size w w'
 go_enter func179,ntmps179
 go_wp2
 exact bodyPost_ret (v:=.agg #[.int .i64 m,.int .i64 a,.bool p,.bool c,.bool d]) (by simp [results,results179,go_sem]) rfl ⟨rfl,((Below.refl _ _).alloc (Nat.le_refl _) _).alloc (by simp) _⟩
theorem line7 (x:Ln) (n:Nat) (w:World):Calls prog 184 #[.agg (lnC x),.int .i64 n] w fun e w'=>e=.returned (.agg (lnC (lnK 7 x n)))∧Below w.heap.size w w':=by
 obtain ⟨m,a,p,c,d⟩:=x;show Calls prog 184 #[.agg #[.int .i64 m,.int .i64 a,.bool p,.bool c,.bool d],.int .i64 n] w fun e w'=>e=.returned (.agg #[.int .i64 m,.int .i64 a,.bool true,.bool c,.bool d])∧Below w.heap.size w w'
 go_enter func184,ntmps184
 go_wp2
 exact bodyPost_ret (v:=.agg #[.int .i64 m,.int .i64 a,.bool true,.bool c,.bool d]) (by simp [results,results184,go_sem]) rfl ⟨rfl,((Below.refl _ _).alloc (Nat.le_refl _) _).alloc (by simp) _⟩
theorem line8 (x:Ln) (n:Nat) (w:World):Calls prog 189 #[.agg (lnC x),.int .i64 n] w fun e w'=>e=.returned (.agg (lnC (lnK 8 x n)))∧Below w.heap.size w w':=by
 obtain ⟨m,a,p,c,d⟩:=x;show Calls prog 189 #[.agg #[.int .i64 m,.int .i64 a,.bool p,.bool c,.bool d],.int .i64 n] w fun e w'=>e=.returned (.agg #[.int .i64 m,.int .i64 a,.bool p,.bool true,.bool d])∧Below w.heap.size w w'
 go_enter func189,ntmps189
 go_wp2
 exact bodyPost_ret (v:=.agg #[.int .i64 m,.int .i64 a,.bool p,.bool true,.bool d]) (by simp [results,results189,go_sem]) rfl ⟨rfl,((Below.refl _ _).alloc (Nat.le_refl _) _).alloc (by simp) _⟩
theorem line9 (x:Ln) (n:Nat) (w:World):Calls prog 194 #[.agg (lnC x),.int .i64 n] w fun e w'=>e=.returned (.agg (lnC (lnK 9 x n)))∧Below w.heap.size w w':=by
 obtain ⟨m,a,p,c,d⟩:=x;cases d
 ·show Calls prog 194 #[.agg #[.int .i64 m,.int .i64 a,.bool p,.bool c,.bool false],.int .i64 n] w fun e w'=>e=.returned (.agg #[.int .i64 m,.int .i64 a,.bool p,.bool c,.bool ((n:Int) == 4)])∧Below w.heap.size w w'
  go_enter func194,ntmps194
  go_wp2
  exact bodyPost_ret (v:=.agg #[.int .i64 m,.int .i64 a,.bool p,.bool c,.bool ((n:Int) == 4)]) (by simp [results,results194,go_sem]) rfl ⟨rfl,((Below.refl _ _).alloc (Nat.le_refl _) _).alloc (by simp) _⟩
 ·show Calls prog 194 #[.agg #[.int .i64 m,.int .i64 a,.bool p,.bool c,.bool true],.int .i64 n] w fun e w'=>e=.returned (.agg #[.int .i64 m,.int .i64 a,.bool p,.bool c,.bool true])∧Below w.heap.size w w'
  go_enter func194,ntmps194
  go_wp2
  exact bodyPost_ret (v:=.agg #[.int .i64 m,.int .i64 a,.bool p,.bool c,.bool true]) (by simp [results,results194,go_sem]) rfl ⟨rfl,((Below.refl _ _).alloc (Nat.le_refl _) _).alloc (by simp) _⟩
structure LnR (k:Int) (s f f2 f3 f4 f5 j:Nat):Prop where
 fd:Instr.findNow (.int .i64) (.int .i64 k) rules.toList 0=some (some (j,ruleV s f f2 f3 f4 f5))
 cf:∀ args W,(callFunc f5 args).run prog W=.ok (.enter f5 args) W
 ln:∀ (x:Ln) (n:Nat) v,Calls prog f5 #[.agg (lnC x),.int .i64 n] v fun e w'=>e=.returned (.agg (lnC (lnK k x n)))∧Below v.heap.size v w'
theorem ln_row (k:Int):(∃ s f f2 f3 f4 f5 j,sizeK k=some s∧LnR k s f f2 f3 f4 f5 j)∨(sizeK k=none∧Instr.findNow (.int .i64) (.int .i64 k) rules.toList 0=some none):=by
 by_cases h1:k=1
 ·subst h1;exact Or.inl ⟨2,_,_,_,_,_,_,rfl,⟨rfl,cf_of (by kernel_rfl),fun x n v=>line1 x n v⟩⟩
 by_cases h2:k=2
 ·subst h2;exact Or.inl ⟨4,_,_,_,_,_,_,rfl,⟨rfl,cf_of (by kernel_rfl),fun x n v=>line2 x n v⟩⟩
 by_cases h5:k=5
 ·subst h5;exact Or.inl ⟨4,_,_,_,_,_,_,rfl,⟨rfl,cf_of (by kernel_rfl),fun x n v=>line5 x n v⟩⟩
 by_cases h7:k=7
 ·subst h7;exact Or.inl ⟨0,_,_,_,_,_,_,rfl,⟨rfl,cf_of (by kernel_rfl),fun x n v=>line7 x n v⟩⟩
 by_cases h8:k=8
 ·subst h8;exact Or.inl ⟨0,_,_,_,_,_,_,rfl,⟨rfl,cf_of (by kernel_rfl),fun x n v=>line8 x n v⟩⟩
 by_cases h9:k=9
 ·subst h9;exact Or.inl ⟨1,_,_,_,_,_,_,rfl,⟨rfl,cf_of (by kernel_rfl),fun x n v=>line9 x n v⟩⟩
 ·refine Or.inr ⟨by simp [sizeK,h1,h2,h5,h7,h8,h9],?_⟩;have e1:(k == 1)=false:=beq_eq_false_iff_ne.2 h1;have e2:(k == 2)=false:=beq_eq_false_iff_ne.2 h2;have e5:(k == 5)=false:=beq_eq_false_iff_ne.2 h5;have e7:(k == 7)=false:=beq_eq_false_iff_ne.2 h7;have e8:(k == 8)=false:=beq_eq_false_iff_ne.2 h8;have e9:(k == 9)=false:=beq_eq_false_iff_ne.2 h9;simp [Instr.findNow,rules,Instr.sameNow,e1,e2,e5,e7,e8,e9]
theorem row6 {w:World} {B:Nat} {x0 x1 x2 x3 x4 x5:Value} {T:TypeId} (h:w.heap[B]?=some (.cells #[x0,x1,x2,x3,x4,x5] T)) :
  w.cell? ⟨B,0,none⟩=some x0∧w.cell? ⟨B,1,none⟩=some x1∧w.cell? ⟨B,2,none⟩=some x2∧w.cell? ⟨B,3,none⟩=some x3∧w.cell? ⟨B,4,none⟩=some x4∧w.cell? ⟨B,5,none⟩=some x5 :=
 ⟨by rw [cell_of_row _ _ 0 _ _ (0,0) h];rfl,by rw [cell_of_row _ _ 1 _ _ (0,0) h];rfl,by rw [cell_of_row _ _ 2 _ _ (0,0) h];rfl,by rw [cell_of_row _ _ 3 _ _ (0,0) h];rfl,
  by rw [cell_of_row _ _ 4 _ _ (0,0) h];rfl,by rw [cell_of_row _ _ 5 _ _ (0,0) h];rfl⟩
theorem row2x {w:World} {B:Nat} {x0 x1:Value} {T:TypeId} (h:w.heap[B]?=some (.cells #[x0,x1] T)) :
  w.cell? ⟨B,0,none⟩=some x0∧w.cell? ⟨B,1,none⟩=some x1∧w.frozen? ⟨B,0,none⟩=false∧w.frozen? ⟨B,1,none⟩=false :=
 ⟨by rw [cr h];rfl,by rw [cr h];rfl,frz h _,frz h _⟩
theorem start2r (w:World) (a b:Obj):((w.alloc a).alloc b).heap.size=w.heap.size+1+1∧((w.alloc a).alloc b).heap[w.heap.size]?=some a∧((w.alloc a).alloc b).heap[w.heap.size+1]?=some b∧Below w.heap.size w ((w.alloc a).alloc b):=by
 have s1:(w.alloc a).heap.size=w.heap.size+1:=by simp
 have e2:=heap_alloc_new (w.alloc a) b;rw [s1] at e2;refine ⟨by simp,?_,e2,((Below.refl _ _).alloc (Nat.le_refl _) _).alloc (by omega) _⟩;rw [Below.heap_alloc _ _ _ (by omega)];exact heap_alloc_new w a
theorem infoOp:(prog.info? 116).map (·.size)=some 2:=by kernel_rfl
theorem load2 {W:World} {E:Nat} {x0 x1:Value} (h:W.heap[E]?=some (.cells #[x0,x1] 116)):(loadVar 116 ⟨E,0,none⟩).run prog W=.ok (.agg #[x0,x1]) W :=
 run_loadVar_row (P:=prog) _ _ 116 116 #[x0,x1] (0,0) _ h underlying116 rfl infoOp
theorem set2_at {W:World} {E:Nat} {z0 z1:Value} {T:TypeId} (h:W.heap[E]?=some (.cells #[z0,z1] T)) (x0 x1:Value) :
  ((W.setCell ⟨E,0,none⟩ x0).setCell ⟨E,1,none⟩ x1).heap[E]?=some (.cells #[x0,x1] T) :=
 heap_setCell_same _ _ 1 _ _ x1 (heap_setCell_same _ _ 0 _ _ x0 h)
theorem look2_at (w:World) (M:Nat) (es:Array MapEntry) (c i:Nat) (k:Int) (v:Value) (hb:w.heap[M]?=some (.map es c)) (hf:Instr.findNow (.int .i64) (.int .i64 k) es.toList 0=some (some (i,v))) :
  (Instr.lookup 177 (.map (some M)) (.int .i64 k) true).run prog w=.ok (.tuple #[v,.bool true]) w:=by
 unfold Instr.lookup;simp only [Sem.run_bind,Sem.run_pure,run_underlying underlying177,MapKept.run_getObj_map hb,MapKept.run_checkKey underlying2 (d:=.int .i64) (k:=.int .i64 k) (by trivial),MapKept.run_findKey underlying2 hf,Result.andThen];rfl
abbrev noRule:Value:=.agg #[.int .i64 0,.nilFunc,.nilFunc,.nilFunc,.nilFunc,.nilFunc]
theorem look2_no (w:World) (M:Nat) (es:Array MapEntry) (c:Nat) (k:Int) (hb:w.heap[M]?=some (.map es c)) (hf:Instr.findNow (.int .i64) (.int .i64 k) es.toList 0=some none) :
  (Instr.lookup 177 (.map (some M)) (.int .i64 k) true).run prog w=.ok (.tuple #[noRule,.bool false]) w:=by
 unfold Instr.lookup;simp only [Sem.run_bind,Sem.run_pure,run_underlying underlying177,MapKept.run_getObj_map hb,MapKept.run_checkKey underlying2 (d:=.int .i64) (k:=.int .i64 k) (by trivial),MapKept.run_findKey underlying2 hf,Result.andThen,Tryz.zeroValue185];rfl
theorem info6:(prog.info? 185).map (·.size)=some 6:=by kernel_rfl
theorem load6 {W:World} {E:Nat} {x0 x1 x2 x3 x4 x5:Value} (h:W.heap[E]?=some (.cells #[x0,x1,x2,x3,x4,x5] 185)):(loadVar 185 ⟨E,0,none⟩).run prog W=.ok (.agg #[x0,x1,x2,x3,x4,x5]) W :=
 run_loadVar_row (P:=prog) _ _ 185 185 #[x0,x1,x2,x3,x4,x5] (0,0) _ h underlying185 rfl info6
theorem load6d {W:World} {E:Nat} {x0 x1 x2 x3 x4 x5:Value} (h:W.heap[E]?=some (.cells #[x0,x1,x2,x3,x4,x5] 185)):(loadVar 185 ⟨E,0,none⟩).run prog W.drew=.ok (.agg #[x0,x1,x2,x3,x4,x5]) W.drew :=
 load6 (W:=W.drew) h
theorem set6_at {W:World} {E:Nat} {z0 z1 z2 z3 z4 z5:Value} {T:TypeId} (h:W.heap[E]?=some (.cells #[z0,z1,z2,z3,z4,z5] T)) (x0 x1 x2 x3 x4 x5:Value) :
  ((((((W.setCell ⟨E,0,none⟩ x0).setCell ⟨E,1,none⟩ x1).setCell ⟨E,2,none⟩ x2).setCell ⟨E,3,none⟩ x3).setCell ⟨E,4,none⟩ x4).setCell ⟨E,5,none⟩ x5).heap[E]?=some (.cells #[x0,x1,x2,x3,x4,x5] T) :=
 heap_setCell_same _ _ 5 _ _ x5 (heap_setCell_same _ _ 4 _ _ x4 (heap_setCell_same _ _ 3 _ _ x3 (heap_setCell_same _ _ 2 _ _ x2 (heap_setCell_same _ _ 1 _ _ x1 (heap_setCell_same _ _ 0 _ _ x0 h)))))
theorem set6_below {n:Nat} {w W:World} {E:Nat} (h:Below n w W) (hE:n≤E) (x0 x1 x2 x3 x4 x5:Value) :
  Below n w ((((((W.setCell ⟨E,0,none⟩ x0).setCell ⟨E,1,none⟩ x1).setCell ⟨E,2,none⟩ x2).setCell ⟨E,3,none⟩ x3).setCell ⟨E,4,none⟩ x4).setCell ⟨E,5,none⟩ x5) :=
 (((((h.setCell (p:=⟨E,0,none⟩) hE _).setCell (p:=⟨E,1,none⟩) hE _).setCell (p:=⟨E,2,none⟩) hE _).setCell (p:=⟨E,3,none⟩) hE _).setCell (p:=⟨E,4,none⟩) hE _).setCell (p:=⟨E,5,none⟩) hE _
theorem row6f {w:World} {B:Nat} {x0 x1 x2 x3 x4 x5:Value} {T:TypeId} (h:w.heap[B]?=some (.cells #[x0,x1,x2,x3,x4,x5] T)) :
  w.frozen? ⟨B,0,none⟩=false∧w.frozen? ⟨B,1,none⟩=false∧w.frozen? ⟨B,2,none⟩=false∧w.frozen? ⟨B,3,none⟩=false∧w.frozen? ⟨B,4,none⟩=false∧w.frozen? ⟨B,5,none⟩=false :=
 ⟨frz h _,frz h _,frz h _,frz h _,frz h _,frz h _⟩
theorem ruleOf_yes (M:Nat) (k:Int) (t:ByteArray) (s f f2 f3 f4 f5 j:Nat) (w:World) (hM:w.heap[M]?=some (.map rules 6)) (hf:Instr.findNow (.int .i64) (.int .i64 k) rules.toList 0=some (some (j,ruleV s f f2 f3 f4 f5))) :
  Calls prog 134 #[.map (some M),.agg #[.int .i64 k,.string t]] w fun e w'=>e=.returned (.tuple #[ruleV s f f2 f3 f4 f5,.bool ((t.size:Int) == (s:Int))])∧Below w.heap.size w w':=by
 have hMl:M<w.heap.size:=(ge.1 hM).1;obtain ⟨hs,q0,q1,hb0⟩:=start2r w (.cells #[.int .i64 k,.string t] 116) (.cells #[.int .i64 0,.nilFunc,.nilFunc,.nilFunc,.nilFunc,.nilFunc] 185);have hlk:=look2_at ((w.alloc (.cells #[.int .i64 k,.string t] 116)).alloc (.cells #[.int .i64 0,.nilFunc,.nilFunc,.nilFunc,.nilFunc,.nilFunc] 185)) M rules 6 j k _ ((hb0.block M hMl).trans hM) hf;have HQ:=hide (And.intro hs (And.intro q0 (And.intro q1 hb0)));clear hs q0 q1 hb0 hM hf;go_enter func134,ntmps134
 go_upto_region 2 with fail
 refine gen_world (fun q=>q.heap[w.heap.size]?=some (.cells #[.int .i64 k,.string t] 116)∧q.heap[w.heap.size+1]?=some (.cells #[.int .i64 0,.nilFunc,.nilFunc,.nilFunc,.nilFunc,.nilFunc] 185)∧q.heap[w.heap.size+1+1]?=some (.cells #[.int .i64 s,fnV f,fnV f2,fnV f3,fnV f4,fnV f5] 185)∧Below w.heap.size w q) (by
   obtain ⟨hs,q0,q1,hb0⟩:=uh HQ;have hn:=heap_alloc_new ((w.alloc (.cells #[.int .i64 k,.string t] 116)).alloc (.cells #[.int .i64 0,.nilFunc,.nilFunc,.nilFunc,.nilFunc,.nilFunc] 185)) (.cells #[.int .i64 s,fnV f,fnV f2,fnV f3,fnV f4,fnV f5] 185);rw [hs] at hn;exact ⟨(Below.heap_alloc _ _ _ (by omega)).trans q0,(Below.heap_alloc _ _ _ (by omega)).trans q1,hn,hb0.alloc hb0.size _⟩) ?_
 rintro q ⟨h0,h1,h2,hb⟩;clear hlk HQ;obtain ⟨c0,c1,_,_⟩:=row2x h0;obtain ⟨e0,e1,e2,e3,e4,e5⟩:=row6 h1;obtain ⟨g0,g1,g2,g3,g4,g5⟩:=row6f h1;obtain ⟨r0,r1,r2,r3,r4,r5⟩:=row6 h2;have HH:=hide (And.intro h1 hb);clear h0 h1 h2 hb;go_region_held3 (fun z=>z.cell? ⟨w.heap.size,1,none⟩=some (.string t)∧z.cell? ⟨w.heap.size+1+1,0,none⟩=some (.int .i64 s)∧z.cell? ⟨w.heap.size+1+1,1,none⟩=some (fnV f)∧z.cell? ⟨w.heap.size+1+1,2,none⟩=some (fnV f2)∧z.cell? ⟨w.heap.size+1+1,3,none⟩=some (fnV f3)∧z.cell? ⟨w.heap.size+1+1,4,none⟩=some (fnV f4)∧z.cell? ⟨w.heap.size+1+1,5,none⟩=some (fnV f5)) (go_keep) (fail)
 all_goals
  go_wp2
  refine bodyPost_ret (v:=.tuple #[ruleV s f f2 f3 f4 f5,.bool ((t.size:Int) == (s:Int))]) (by simp [results,results134,asAddr,load6d (set6_at (uh HH).1 (.int .i64 s) (fnV f) (fnV f2) (fnV f3) (fnV f4) (fnV f5))]) rfl ⟨rfl,?_⟩;exact (set6_below (uh HH).2 (Nat.le_succ _) _ _ _ _ _ _).drew
theorem ruleOf_no (M:Nat) (k:Int) (t:ByteArray) (w:World) (hM:w.heap[M]?=some (.map rules 6)) (hf:Instr.findNow (.int .i64) (.int .i64 k) rules.toList 0=some none) :
  Calls prog 134 #[.map (some M),.agg #[.int .i64 k,.string t]] w fun e w'=>e=.returned (.tuple #[noRule,.bool false])∧Below w.heap.size w w':=by
 have hMl:M<w.heap.size:=(ge.1 hM).1;obtain ⟨hs,q0,q1,hb0⟩:=start2r w (.cells #[.int .i64 k,.string t] 116) (.cells #[.int .i64 0,.nilFunc,.nilFunc,.nilFunc,.nilFunc,.nilFunc] 185);have hlk:=look2_no ((w.alloc (.cells #[.int .i64 k,.string t] 116)).alloc (.cells #[.int .i64 0,.nilFunc,.nilFunc,.nilFunc,.nilFunc,.nilFunc] 185)) M rules 6 k ((hb0.block M hMl).trans hM) hf;have HQ:=hide (And.intro hs (And.intro q0 (And.intro q1 hb0)));clear hs q0 q1 hb0 hM hf;go_enter func134,ntmps134
 go_upto_region 2 with fail
 refine gen_world (fun q=>q.heap[w.heap.size]?=some (.cells #[.int .i64 k,.string t] 116)∧q.heap[w.heap.size+1]?=some (.cells #[.int .i64 0,.nilFunc,.nilFunc,.nilFunc,.nilFunc,.nilFunc] 185)∧q.heap[w.heap.size+1+1]?=some (.cells #[.int .i64 0,.nilFunc,.nilFunc,.nilFunc,.nilFunc,.nilFunc] 185)∧Below w.heap.size w q) (by
   obtain ⟨hs,q0,q1,hb0⟩:=uh HQ;have hn:=heap_alloc_new ((w.alloc (.cells #[.int .i64 k,.string t] 116)).alloc (.cells #[.int .i64 0,.nilFunc,.nilFunc,.nilFunc,.nilFunc,.nilFunc] 185)) (.cells #[.int .i64 0,.nilFunc,.nilFunc,.nilFunc,.nilFunc,.nilFunc] 185);rw [hs] at hn;exact ⟨(Below.heap_alloc _ _ _ (by omega)).trans q0,(Below.heap_alloc _ _ _ (by omega)).trans q1,hn,hb0.alloc hb0.size _⟩) ?_
 rintro q ⟨h0,h1,h2,hb⟩;clear hlk HQ;obtain ⟨c0,c1,_,_⟩:=row2x h0;obtain ⟨e0,e1,e2,e3,e4,e5⟩:=row6 h1;obtain ⟨g0,g1,g2,g3,g4,g5⟩:=row6f h1;obtain ⟨r0,r1,r2,r3,r4,r5⟩:=row6 h2;have HH:=hide (And.intro h1 hb);clear h0 h1 h2 hb;go_region
 all_goals
  go_wp2
  refine bodyPost_ret (v:=.tuple #[noRule,.bool false]) (by simp [results,results134,asAddr,load6d (set6_at (uh HH).1 (.int .i64 0) .nilFunc .nilFunc .nilFunc .nilFunc .nilFunc)]) rfl ⟨rfl,?_⟩;exact (set6_below (uh HH).2 (Nat.le_succ _) _ _ _ _ _ _).drew
end Go.Proofs.YtahpjlbaagkdoaaGreatDoor
