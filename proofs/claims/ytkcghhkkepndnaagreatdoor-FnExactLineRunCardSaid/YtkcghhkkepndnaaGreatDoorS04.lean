/- A scope in which the run jumps to several labels: what holds at every jump, a label each, and a measure that every pass lowers; after the library's law for one label. Plain mathematics of frames: what is stuffed, what a deframer holds and finds byte by byte, that what was framed is found, and that parts are found as the whole; no condition but those that are written. Is a number an accm, and is a byte mapped by it: the program's and the model's walks; a byte below 32 is mapped if the bit of its number is 1. Stuff, the program's and the model's: of an accm and a text of few enough bytes what is stuffed; what lay in memory stands. A deframing in memory: what its cells hold, and the walks of put and tell; only the deframing itself and new memory are turned. A row of bytes of the call's own, as a text's conversion may have made it too: appending one byte, turning it into a text; no condition. -/
import Derived.Test.YtkcghhkkepndnaaGreatDoorShW
import Derived.ScopeJumps
import Derived.WalkMore
import Derived.Test.YtkcghhkkepndnaaGreatDoorS00
import Derived.Deep.RegionHeld
import Derived.Deep.QuietTactic
import Derived.BigQuiet
import Derived.Deep.MidRow
import Derived.Deep.WholeRow
import Derived.ArgAppend
namespace Go.Proofs.YtkcghhkkepndnaaGreatDoor
open Go.RowKit
def jumps (J:Nat→Act→World→Prop) (Q:Exit→Act→World→Prop):Exit→Act→World→Prop
 | .goto l,a,w=>J l a w
 | e,a,w=>Q e a w
section
variable {Q:Exit→Act→World→Prop} {J:Nat→Act→World→Prop} {a:Act} {w:World}
theorem jumps_ret:jumps J Q .ret a w=Q .ret a w:=rfl
theorem jumps_goto (l:Nat):jumps J Q (.goto l) a w=J l a w:=rfl
end
theorem wp_jumps {P:Program} {a:Act} {w:World} {Q:Exit→Act→World→Prop} {c:Code} (J:Nat→Act→World→Prop) (μ:Act→World→Nat)
  (pass:∀ l a w,J l a w→∃ rest,findLabel c l=some rest∧rest.wp P (jumps (fun l' a' w'=>J l' a' w'∧μ a' w' < μ a w) Q) a w)
  (first:c.wp P (jumps J Q) a w):(Code.scope c).wp P Q a w:=by
 intro b k cs
 have key:∀ n l a w,μ a w=n→J l a w→∃ rest,findLabel c l=some rest∧∃ e a' w',Q e a' w'∧Arrives P (lone (b.at a (.code rest :: .inScope c :: k)) cs w) b k cs e a' w':=by
  intro n
  induction n using Nat.strongRecOn with
  | _ n ih =>
   intro l a w hn hJ
   obtain ⟨rest,hf,hp⟩:=pass l a w hJ
   refine ⟨rest,hf,?_⟩
   obtain ⟨e,a₁,w₁,hq,harr⟩:=hp b (.inScope c :: k) cs
   cases e with
   | normal=>exact ⟨.normal,a₁,w₁,hq,Steps.trans harr (.one step_inScope)⟩
   | exit id=>exact ⟨.exit id,a₁,w₁,hq,fun k' hk=>harr k' (by simp [exitTo,hk])⟩
   | goto l' =>
    obtain ⟨hJ',hlt⟩:=hq
    obtain ⟨rest',hf',e₂,a₂,w₂,hq₂,harr₂⟩:=ih _ (by omega) l' a₁ w₁ rfl hJ'
    have hg:gotoIn l' (.inScope c :: k)=some (.code rest' :: .inScope c :: k):=by simp [gotoIn,hf']
    exact ⟨e₂,a₂,w₂,hq₂,.of_steps (harr _ hg) harr₂⟩
   | ret=>exact ⟨_,a₁,w₁,hq,harr⟩
   | panic ch=>exact ⟨_,a₁,w₁,hq,harr⟩
   | outgrown=>exact ⟨_,a₁,w₁,hq,harr⟩
 obtain ⟨e,a₁,w₁,hq,harr⟩:=first b (.inScope c :: k) cs
 cases e with
 | normal=>exact ⟨.normal,a₁,w₁,hq,.head step_scope (Steps.trans harr (.one step_inScope))⟩
 | exit id=>exact ⟨.exit id,a₁,w₁,hq,fun k' hk=>.head step_scope (harr k' (by simp [exitTo,hk]))⟩
 | goto l' =>
  obtain ⟨rest',hf',e₂,a₂,w₂,hq₂,harr₂⟩:=key _ l' a₁ w₁ rfl hq
  have hg:gotoIn l' (.inScope c :: k)=some (.code rest' :: .inScope c :: k):=by simp [gotoIn,hf']
  exact ⟨e₂,a₂,w₂,hq₂,.of_steps (.head step_scope (harr _ hg)) harr₂⟩
 | ret=>exact ⟨_,a₁,w₁,hq,.of_steps (.one step_scope) harr⟩
 | panic ch=>exact ⟨_,a₁,w₁,hq,.of_steps (.one step_scope) harr⟩
 | outgrown=>exact ⟨_,a₁,w₁,hq,.of_steps (.one step_scope) harr⟩
end Go.Proofs.YtkcghhkkepndnaaGreatDoor
namespace Go.Proofs.YtkcghhkkepndnaaGreatDoor.Hd

def mapped (a:Nat) (c:UInt8):Bool:=decide (c.toNat<32) && (a / 2 ^ c.toNat % 2 == 1)
def odd (a:Nat) (c:UInt8):Bool:=c == 0x7e || c == 0x7d || mapped a c
def stuff1 (a:Nat) (c:UInt8):List UInt8:=if odd a c then [0x7d,c ^^^ 0x20] else [c]
def stuff (a:Nat) (l:List UInt8):List UInt8:=l.flatMap (stuff1 a)
structure Fd where
 kind:Nat
 text:List UInt8
 deriving DecidableEq
structure St where
 inn:Bool
 esc:Bool
 long:Bool
 held:List UInt8
 deriving DecidableEq

theorem stuff_snoc (a:Nat) (l:List UInt8) (c:UInt8):stuff a (l ++ [c])=stuff a l ++ stuff1 a c:=by simp [stuff,List.flatMap_append]
theorem stuff_cons (a:Nat) (l:List UInt8) (c:UInt8):stuff a (c :: l)=stuff1 a c ++ stuff a l:=by simp [stuff]
theorem stuff1_le (a:Nat) (c:UInt8):(stuff1 a c).length≤2:=by unfold stuff1;split<;>simp
theorem stuff_len (a:Nat) (l:List UInt8):(stuff a l).length≤2*l.length:=by
 induction l with
 | nil=>simp [stuff]
 | cons c l ih =>
  rw [stuff_cons,List.length_append]
  have:=stuff1_le a c
  simp only [List.length_cons]
  omega
structure Gd where
 good:List UInt8→Bool
 k:Nat

def endOf (g:Gd) (s:St):List Fd :=
 if !s.inn then []
 else if s.esc then [⟨4,[]⟩]
 else if s.held=[]∧s.long=false then []
 else if s.long then [⟨5,[]⟩]
 else if s.held.length≤g.k then [⟨3,[]⟩]
 else if !g.good s.held then [⟨2,[]⟩]
 else [⟨1,s.held.take (s.held.length - g.k)⟩]
def fnd (g:Gd) (s:St) (c:UInt8):List Fd:=if c=0x7e then endOf g s else []
def put (s:St) (c:UInt8):St:=if 304≤s.held.length then { s with esc:=false,long:=true } else { s with esc:=false,held:=s.held ++ [c] }
def nxt (a:Nat) (s:St) (c:UInt8):St :=
 if c=0x7e then ⟨true,false,false,[]⟩
 else if !s.inn || mapped a c then s
 else if c=0x7d∧s.esc=false then { s with esc:=true }
 else put s (if s.esc then c ^^^ 0x20 else c)
def run (a:Nat) (s:St) (l:List UInt8):St:=l.foldl (nxt a) s
def finds (g:Gd) (a:Nat):St→List UInt8→List Fd
 | _,[]=>[]
 | s,c :: l=>fnd g s c ++ finds g a (nxt a s c) l
def Right (s:St):Prop:=s.held.length≤304∧(s.inn=false→s.esc=false∧s.long=false∧s.held=[])

theorem run_snoc (a:Nat) (s:St) (l:List UInt8) (c:UInt8):run a s (l ++ [c])=nxt a (run a s l) c:=by simp [run]
theorem finds_append (g:Gd) (a:Nat) (s:St) (l m:List UInt8):finds g a s (l ++ m)=finds g a s l ++ finds g a (run a s l) m:=by
 induction l generalizing s with
 | nil=>rfl
 | cons c l ih=>simp only [List.cons_append,finds,ih,List.append_assoc];rfl
theorem finds_snoc (g:Gd) (a:Nat) (s:St) (l:List UInt8) (c:UInt8):finds g a s (l ++ [c])=finds g a s l ++ fnd g (run a s l) c:=by
 rw [finds_append];simp [finds]
theorem nxt_right (a:Nat) (s:St) (c:UInt8) (h:Right s):Right (nxt a s c):=by
 obtain ⟨h1,h2⟩:=h
 unfold nxt
 split
 ·exact ⟨by simp,by simp⟩
 ·split
  ·exact ⟨h1,h2⟩
  ·rename_i hne hin
   have hi:s.inn=true:=by
    simp only [Bool.or_eq_true,not_or,Bool.not_eq_true',Bool.not_eq_false] at hin
    exact hin.1
   split
   ·exact ⟨h1,fun k=>by simp [hi] at k⟩
   ·unfold put
    split
    ·exact ⟨h1,fun k=>by simp [hi] at k⟩
    ·refine ⟨by simp;omega,fun k=>by simp [hi] at k⟩
theorem run_right (a:Nat) (l:List UInt8) (s:St) (h:Right s):Right (run a s l):=by
 induction l generalizing s with
 | nil=>exact h
 | cons c l ih=>exact ih _ (nxt_right a s c h)
theorem endOf_le (g:Gd) (s:St):(endOf g s).length≤1:=by
 unfold endOf
 repeat' split
 all_goals simp
theorem endOf_pend (g:Gd) (s:St) (h:s.esc=false) (h1:s.held=[]) (h2:s.long=false):endOf g s=[]:=by
 unfold endOf
 split
 ·rfl
 ·simp [h,h1,h2]
theorem finds_le (g:Gd) (a:Nat) (l:List UInt8) (s:St):2*(finds g a s l).length≤l.length+1:=by
 have key:∀ (l:List UInt8) (s:St),(2*(finds g a s l).length≤l.length+1)∧(s.esc=false→s.held=[]→s.long=false→2*(finds g a s l).length≤l.length):=by
  intro l
  induction l with
  | nil=>intro s;simp [finds]
  | cons c l ih =>
   intro s
   by_cases hc:c=0x7e
   ·subst hc
    have e:nxt a s 0x7e=⟨true,false,false,[]⟩:=by simp [nxt]
    have i:=(ih ⟨true,false,false,[]⟩).2 rfl rfl rfl
    have el:=endOf_le g s
    refine ⟨?_,fun h1 h2 h3=>?_⟩
    ·simp only [finds,fnd,if_true,e,List.length_append,List.length_cons]
     omega
    ·simp only [finds,fnd,if_true,e,List.length_append,List.length_cons,endOf_pend g s h1 h2 h3,List.length_nil]
     omega
   ·have i:=(ih (nxt a s c)).1
    have:2*(finds g a s (c :: l)).length≤l.length+1:=by
     simp only [finds,fnd,if_neg hc,List.nil_append]
     exact i
    simp only [List.length_cons]
    exact ⟨by omega,fun _ _ _=>by omega⟩
 exact (key l s).1
theorem take_more (n:Nat) (F x:List Fd) (hx:x.length≤1):(F ++ x).take n=if (F.take n).length<n then F.take n ++ x else F.take n:=by
 by_cases h:F.length<n
 ·rw [if_pos (by rw [List.length_take];omega),List.take_of_length_le (by simp;omega),List.take_of_length_le (by omega)]
 ·rw [if_neg (by rw [List.length_take];omega),List.take_append_of_le_length (by omega)]

def frame (a:Nat) (u:List UInt8):List UInt8:=[0x7e] ++ stuff a u ++ [0x7e]
end Go.Proofs.YtkcghhkkepndnaaGreatDoor.Hd
namespace Go.Proofs.YtkcghhkkepndnaaGreatDoor
open Go.RowKit
def accOk (x:Int):Bool:=decide (0≤x) && decide (x≤4294967295)
theorem accOk_get {x:Int} (h:accOk x=true):∃ a:Nat,x=(a:Int)∧a<4294967296:=by
 simp only [accOk,Bool.and_eq_true,decide_eq_true_eq] at h
 obtain ⟨a,ha⟩:=Int.eq_ofNat_of_zero_le h.1
 exact ⟨a,ha,by omega⟩
theorem accOk_nat {a:Nat} (h:a<4294967296):accOk (a:Int)=true:=by
 simp only [accOk,Bool.and_eq_true,decide_eq_true_eq];omega

set_option maxHeartbeats 400000 in
theorem accmRight (x:Int) (w:World):Calls Tryz.prog 111 #[.int .i64 x] w fun e w'=>e=.returned (.bool (accOk x))∧w'=w:=by
 by_cases h1:0≤x
 ·by_cases h2:x≤4294967295
  ·have d1:decide ((0:Int)≤x)=true:=decide_eq_true h1
   have d2:decide (x≤4294967295)=true:=decide_eq_true h2
   rw [show accOk x=true by simp [accOk,h1,h2]]
   go_enter Tryz.func111,Tryz.ntmps111
   go_wp2
   go_ret
   exact ⟨rfl,rfl⟩
  ·have d1:decide ((0:Int)≤x)=true:=decide_eq_true h1
   have d2:decide (x≤4294967295)=false:=decide_eq_false h2
   rw [show accOk x=false by simp [accOk,h1,h2]]
   go_enter Tryz.func111,Tryz.ntmps111
   go_wp2
   go_ret
   exact ⟨rfl,rfl⟩
 ·have d1:decide ((0:Int)≤x)=false:=decide_eq_false h1
  rw [show accOk x=false by simp [accOk,h1]]
  go_enter Tryz.func111,Tryz.ntmps111
  go_wp2
  go_ret
  exact ⟨rfl,rfl⟩
set_option maxHeartbeats 400000 in
theorem specAccm (x:Int) (w:World):Calls Tryz.prog 99 #[.int .i64 x] w fun e w'=>e=.returned (.bool (accOk x))∧w'=w:=by
 by_cases h1:0≤x
 ·by_cases h2:x≤4294967295
  ·have d1:decide ((0:Int)≤x)=true:=decide_eq_true h1
   have d2:decide (x≤4294967295)=true:=decide_eq_true h2
   rw [show accOk x=true by simp [accOk,h1,h2]]
   go_enter Tryz.func99,Tryz.ntmps99
   go_wp2
   go_ret
   exact ⟨rfl,rfl⟩
  ·have d1:decide ((0:Int)≤x)=true:=decide_eq_true h1
   have d2:decide (x≤4294967295)=false:=decide_eq_false h2
   rw [show accOk x=false by simp [accOk,h1,h2]]
   go_enter Tryz.func99,Tryz.ntmps99
   go_wp2
   go_ret
   exact ⟨rfl,rfl⟩
 ·have d1:decide ((0:Int)≤x)=false:=decide_eq_false h1
  rw [show accOk x=false by simp [accOk,h1]]
  go_enter Tryz.func99,Tryz.ntmps99
  go_wp2
  go_ret
  exact ⟨rfl,rfl⟩

theorem shr_and (a n:Nat) (ha:a<4294967296):(bits .and .i64 ((a:Int) / 2 ^ n) 1 == 1)=(a / 2 ^ n % 2 == 1):=by
 have hlt:a / 2 ^ n<4294967296:=Nat.lt_of_le_of_lt (Nat.div_le_self _ _) ha
 have h:=i64_and_nat (a / 2 ^ n) 1 (by omega) (by decide)
 rw [nat_mask1] at h
 have e:((a:Int) / 2 ^ n)=((a / 2 ^ n:Nat):Int):=by simp
 rw [e]
 have h':bits .and .i64 ((a / 2 ^ n:Nat):Int) 1=((a / 2 ^ n % 2:Nat):Int):=h
 rw [h']
 rcases Nat.mod_two_eq_zero_or_one (a / 2 ^ n) with h0 | h0<;>rw [h0]<;>rfl
set_option maxHeartbeats 400000 in
theorem implMapped (a:Nat) (c:UInt8) (B:Nat) (w:World) (ha:a<4294967296) (hB:w.cell? ⟨B,0,none⟩=some (.int .i64 a)) :
  Calls Tryz.prog 134 #[.int .u8 c.toNat,.pointer (some ⟨B,0,none⟩)] w fun e w'=>e=.returned (.bool (Hd.mapped a c))∧w'=w:=by
 have hc:=c.toNat_lt
 unfold Hd.mapped
 generalize c.toNat=n at *
 by_cases h1:n<32
 ·have d1:decide ((n:Int)<32)=true:=decide_eq_true (by omega)
  rw [decide_eq_true h1,Bool.true_and]
  go_enter Tryz.func134,Tryz.ntmps134
  go_wp2
  go_ret
  exact ⟨ret_bool (shr_and a n ha),rfl⟩
 ·have d1:decide ((n:Int)<32)=false:=decide_eq_false (by omega)
  rw [decide_eq_false h1,Bool.false_and]
  go_enter Tryz.func134,Tryz.ntmps134
  go_wp2
  go_ret
  exact ⟨rfl,rfl⟩
set_option maxHeartbeats 400000 in
theorem specMapped (a:Nat) (c:UInt8) (w:World) (ha:a<4294967296) :
  Calls Tryz.prog 104 #[.int .u8 c.toNat,.int .i64 a] w fun e w'=>e=.returned (.bool (Hd.mapped a c))∧w'=w:=by
 have hc:=c.toNat_lt
 unfold Hd.mapped
 generalize c.toNat=n at *
 by_cases h1:n<32
 ·have d1:decide ((n:Int)<32)=true:=decide_eq_true (by omega)
  rw [decide_eq_true h1,Bool.true_and]
  go_enter Tryz.func104,Tryz.ntmps104
  go_wp2
  go_ret
  exact ⟨ret_bool (shr_and a n ha),rfl⟩
 ·have d1:decide ((n:Int)<32)=false:=decide_eq_false (by omega)
  rw [decide_eq_false h1,Bool.false_and]
  go_enter Tryz.func104,Tryz.ntmps104
  go_wp2
  go_ret
  exact ⟨rfl,rfl⟩
set_option maxHeartbeats 400000 in
theorem mappedBy (a:Nat) (w:World) :
  Calls Tryz.prog 117 #[.int .i64 a] w fun e w'=>e=.returned (.func (.func 134) #[] #[.pointer (some ⟨w.heap.size,0,none⟩)])∧w'=w.alloc (.cells #[.int .i64 a] 2):=by
 have hmf:∀ (fn:Fn) (first cap:Array Value) (w:World),(Instr.makeFunc fn first cap).run Tryz.prog w=.ok (.func fn first cap) w:=fun _ _ _ _=>rfl
 go_enter Tryz.func117,Tryz.ntmps117
 go_wp2
 go_ret
 exact ⟨rfl,rfl⟩
end Go.Proofs.YtkcghhkkepndnaaGreatDoor
namespace Go.Proofs.YtkcghhkkepndnaaGreatDoor
open Go.RowKit
theorem xor20 (c:UInt8):bits .xor .u8 (c.toNat:Int) 32=((c ^^^ 0x20).toNat:Int):=by
 have:=u8_xor_nat c.toNat 32 c.toNat_lt (by decide)
 rw [UInt8.toNat_xor]
 exact this
theorem odd_ways (a:Nat) (c:UInt8) (P:Prop)
  (h1:((c.toNat:Int) == 126)=true→Hd.stuff1 a c=[0x7d,c ^^^ 0x20]→P)
  (h2:((c.toNat:Int) == 126)=false→((c.toNat:Int) == 125)=true→Hd.stuff1 a c=[0x7d,c ^^^ 0x20]→P)
  (h3:((c.toNat:Int) == 126)=false→((c.toNat:Int) == 125)=false→Hd.mapped a c=true→Hd.stuff1 a c=[0x7d,c ^^^ 0x20]→P)
  (h4:((c.toNat:Int) == 126)=false→((c.toNat:Int) == 125)=false→Hd.mapped a c=false→Hd.stuff1 a c=[c]→P):P:=by
 by_cases e1:c=0x7e
 ·subst e1
  exact h1 rfl (by simp [Hd.stuff1,Hd.odd])
 ·have d1:((c.toNat:Int) == 126)=false:=u8_ne e1
  by_cases e2:c=0x7d
  ·subst e2
   exact h2 rfl rfl (by simp [Hd.stuff1,Hd.odd])
  ·have d2:((c.toNat:Int) == 125)=false:=u8_ne e2
   cases hm:Hd.mapped a c
   ·exact h4 d1 d2 hm (by simp [Hd.stuff1,Hd.odd,e1,e2,hm])
   ·exact h3 d1 d2 hm (by simp [Hd.stuff1,Hd.odd,hm])

set_option maxHeartbeats 1000000 in
theorem specStuff (t:ByteArray) (a:Nat) (w:World) (ha:a<4294967296) (ht:t.size≤100000) :
  Calls Tryz.prog 100 #[.string t,.int .i64 a] w fun e w'=>e=.returned (.string (txt (Hd.stuff a t.data.toList)))∧Below w.heap.size w w':=by
 go_enter Tryz.func100,Tryz.ntmps100
 go_wp2_with fail
 go_loopw [5,6] (fun v i wr=>∃ (k:Nat),k≤t.size∧i=.int .i64 k∧wr.ownsRow w.heap.size 5 1 v (Hd.stuff a (t.data.toList.take k)).length (vals (Hd.stuff a (t.data.toList.take k)))∧Below w.heap.size w wr) (fun _ i _=>t.size - (intOf i).toNat)
 case atStart=>exact ⟨0,Nat.zero_le _,rfl,World.ownsRow_lit w #[] 0 (by omega) (Nat.zero_le _) rfl,(Below.refl _ _).alloc (Nat.le_refl _) _⟩
 case round =>
  obtain ⟨k,hk,rfl,hown,hb1⟩:=hrel
  by_cases hlt:k<t.size
  ·have hn:=Hd.stuff_len a (t.data.toList.take k)
   rw [List.length_take] at hn
   have HS:Hid (Hd.stuff a (t.data.toList.take (k+1))=Hd.stuff a (t.data.toList.take k) ++ Hd.stuff1 a t[k]):=by
    refine hide ?_
    rw [take_snoc t k hlt,Hd.stuff_snoc]
   have hn2:(Hd.stuff a (t.data.toList.take k)).length≤200000:=by omega
   generalize Hd.stuff a (t.data.toList.take k)=L at *
   have C:=hide (fun w=>specMapped a t[k] w ha)
   have hxo:=xor20 t[k]
   have hsz:=hb1.size
   have HO:=hide hown
   clear hown hn
   refine odd_ways a t[k] _ (fun d1 hs=>?_) (fun d1 d2 hs=>?_) (fun d1 d2 d3 hs=>?_) (fun d1 d2 d3 hs=>?_)
   case' refine_1=>have HT:Hid (Hd.stuff a (t.data.toList.take (k+1))=L ++ [0x7d,t[k] ^^^ 0x20]):=hide (by rw [uh HS,hs])
   case' refine_2=>have HT:Hid (Hd.stuff a (t.data.toList.take (k+1))=L ++ [0x7d,t[k] ^^^ 0x20]):=hide (by rw [uh HS,hs])
   case' refine_3=>have HT:Hid (Hd.stuff a (t.data.toList.take (k+1))=L ++ [0x7d,t[k] ^^^ 0x20]):=hide (by rw [uh HS,hs])
   case' refine_4=>have HT:Hid (Hd.stuff a (t.data.toList.take (k+1))=L ++ [t[k]]):=hide (by rw [uh HS,hs])
   all_goals clear hs HS
   case' refine_3=>rw [d3] at C
   case' refine_4=>rw [d3] at C
   all_goals
    try generalize (t[k] ^^^ 0x20)=c' at *
    go_wp2_with (first
     | (go_at_call 104;refine (uh C _).mono ?_;rintro e w1 ⟨rfl,rfl⟩)
     | (at_builtin;refine append_bytes rfl _ _ rfl w.heap.size u5 L [0x7d,c'] rfl (uh HO) 2 rfl rfl rfl (by simp;omega) hsz ?_;rintro v' w2 ho2 hb2;have HO2:=hide ho2;clear ho2)
     | (at_builtin;refine append_bytes rfl _ _ rfl w.heap.size u5 L [t[k]] rfl (uh HO) 1 rfl rfl rfl (by simp;omega) hsz ?_;rintro v' w2 ho2 hb2;have HO2:=hide ho2;clear ho2))
    go_roundw
    case rel =>
     refine ⟨k+1,by omega,by go_num,?_,hb1.trans hb2⟩
     rw [uh HT]
     exact uh HO2
    case measure=>simp [intOf];omega
  ·have hlt':¬ ((k:Int)<(t.size:Int)):=by omega
   have hcv:=own_conv hown
   rw [List.take_of_length_le (by simp;omega)] at hcv
   go_wp2
   go_ret
   exact ⟨rfl,hb1⟩

set_option maxHeartbeats 1000000 in
theorem implStuff (t:ByteArray) (a:Nat) (w:World) (ha:a<4294967296) (ht:t.size≤8000) :
  Calls Tryz.prog 112 #[.string t,.int .i64 a] w fun e w'=>e=.returned (.string (txt (Hd.stuff a t.data.toList)))∧Below w.heap.size w w':=by
 have d0:¬ ((8000:Int)<(t.size:Int)):=by omega
 have c1:=accmRight a w
 rw [accOk_nat ha] at c1
 go_enter Tryz.func112,Tryz.ntmps112
 go_wp2_with (first
  | (go_at_call 111;refine c1.mono ?_;rintro e w1 ⟨rfl,hw⟩;replace hw:=hw.symm;subst hw)
  | (go_at_call 117;refine (mappedBy a _).mono ?_;rintro e w1 ⟨rfl,rfl⟩)
  | (at_make;refine mk_bytes rfl _ _ rfl (w.heap.size+1) _ (2*t.size) rfl rfl (by go_num) (by omega) (by simp) ?_;rintro v0 w2 ho2 hb2;have HO2:=hide ho2;have HB2:=hide hb2;clear ho2 hb2))
 go_loopw [6,7] (fun v i wr=>∃ (k:Nat),k≤t.size∧i=.int .i64 k∧wr.ownsRow (w.heap.size+1) 5 1 v (Hd.stuff a (t.data.toList.take k)).length (vals (Hd.stuff a (t.data.toList.take k)))∧Below (w.heap.size+1) (w.alloc (.cells #[.int .i64 a] 2)) wr) (fun _ i _=>t.size - (intOf i).toNat)
 case atStart=>exact ⟨0,Nat.zero_le _,rfl,uh HO2,uh HB2⟩
 case round =>
  obtain ⟨k,hk,rfl,hown,hb1⟩:=hrel
  have hcell:wr.cell? ⟨w.heap.size,0,none⟩=some (.int .i64 a):=by
   rw [hb1.cell (p:=⟨w.heap.size,0,none⟩) (Nat.lt_succ_self _),World.cell?_alloc_at _ _ _ _ rfl]
   rfl
  by_cases hlt:k<t.size
  ·have hn:=Hd.stuff_len a (t.data.toList.take k)
   rw [List.length_take] at hn
   have HS:Hid (Hd.stuff a (t.data.toList.take (k+1))=Hd.stuff a (t.data.toList.take k) ++ Hd.stuff1 a t[k]):=by
    refine hide ?_
    rw [take_snoc t k hlt,Hd.stuff_snoc]
   have hn2:(Hd.stuff a (t.data.toList.take k)).length≤200000:=by omega
   generalize Hd.stuff a (t.data.toList.take k)=L at *
   have C:=hide (implMapped a t[k] w.heap.size wr ha hcell)
   have hxo:=xor20 t[k]
   have hsz:w.heap.size+1≤wr.heap.size:=by simpa using hb1.size
   have HO:=hide hown
   clear hown hn hcell HO2 HB2
   refine odd_ways a t[k] _ (fun d1 hs=>?_) (fun d1 d2 hs=>?_) (fun d1 d2 d3 hs=>?_) (fun d1 d2 d3 hs=>?_)
   case' refine_1=>have HT:Hid (Hd.stuff a (t.data.toList.take (k+1))=L ++ [0x7d,t[k] ^^^ 0x20]):=hide (by rw [uh HS,hs])
   case' refine_2=>have HT:Hid (Hd.stuff a (t.data.toList.take (k+1))=L ++ [0x7d,t[k] ^^^ 0x20]):=hide (by rw [uh HS,hs])
   case' refine_3=>have HT:Hid (Hd.stuff a (t.data.toList.take (k+1))=L ++ [0x7d,t[k] ^^^ 0x20]):=hide (by rw [uh HS,hs])
   case' refine_4=>have HT:Hid (Hd.stuff a (t.data.toList.take (k+1))=L ++ [t[k]]):=hide (by rw [uh HS,hs])
   all_goals clear hs HS
   case' refine_3=>rw [d3] at C
   case' refine_4=>rw [d3] at C
   all_goals
    try generalize (t[k] ^^^ 0x20)=c' at *
    go_wp2_with (first
     | (go_at_call 134;refine (uh C).mono ?_;rintro e w1 ⟨rfl,rfl⟩)
     | (at_builtin;refine append_bytes rfl _ _ rfl (w.heap.size+1) u6 L [0x7d,c'] rfl (uh HO) 2 rfl rfl rfl (by simp;omega) hsz ?_;rintro v' w2 ho2 hb2;have HO2:=hide ho2;clear ho2)
     | (at_builtin;refine append_bytes rfl _ _ rfl (w.heap.size+1) u6 L [t[k]] rfl (uh HO) 1 rfl rfl rfl (by simp;omega) hsz ?_;rintro v' w2 ho2 hb2;have HO2:=hide ho2;clear ho2))
    go_roundw
    case rel =>
     refine ⟨k+1,by omega,by go_num,?_,hb1.trans hb2⟩
     rw [uh HT]
     exact uh HO2
    case measure=>simp [intOf];omega
  ·have hlt':¬ ((k:Int)<(t.size:Int)):=by omega
   have hcv:=own_conv hown
   rw [List.take_of_length_le (by simp;omega)] at hcv
   go_wp2
   go_ret
   exact ⟨rfl,((Below.refl _ _).alloc (Nat.le_refl _) _).trans (hb1.mono (Nat.le_succ _))⟩
end Go.Proofs.YtkcghhkkepndnaaGreatDoor
namespace Go.Proofs.YtkcghhkkepndnaaGreatDoor
open Go.RowKit
structure Near (B:Nat) (w w':World):Prop where
 os:w'.os=w.os
 tape:w'.tape=w.tape
 output:w'.output=w.output
 size:w.heap.size≤w'.heap.size
 block:∀ k,k<w.heap.size→k≠B→w'.heap[k]?=w.heap[k]?
theorem Near.refl (B:Nat) (w:World):Near B w w:=⟨rfl,rfl,rfl,Nat.le_refl _,fun _ _ _=>rfl⟩
theorem Near.trans {B:Nat} {a b c:World} (h:Near B a b) (k:Near B b c):Near B a c :=
 ⟨k.os.trans h.os,k.tape.trans h.tape,k.output.trans h.output,Nat.le_trans h.size k.size,fun i hi hn=>(k.block i (Nat.lt_of_lt_of_le hi h.size) hn).trans (h.block i hi hn)⟩
theorem Near.drew {B:Nat} {a w:World} (h:Near B a w):Near B a w.drew:=⟨h.os,h.tape,h.output,h.size,h.block⟩
theorem Near.setCell {B:Nat} {a w:World} (h:Near B a w) (o:Nat) (v:Value):Near B a (w.setCell ⟨B,o,none⟩ v):=by
 have hb:=(Below.refl 0 w).setCell (p:=⟨B,o,none⟩) (Nat.zero_le _) v
 exact ⟨hb.os.trans h.os,hb.tape.trans h.tape,hb.output.trans h.output,Nat.le_trans h.size hb.size,fun k hk hn=>(Below.heap_setCell w ⟨B,o,none⟩ v k hn).trans (h.block k hk hn)⟩
theorem Near.of_below {B:Nat} {a w w':World} (h:Near B a w) (hb:Below w.heap.size w w'):Near B a w' :=
 h.trans ⟨hb.os,hb.tape,hb.output,hb.size,fun k hk _=>hb.block k hk⟩
theorem Near.alloc {B:Nat} {a w:World} (h:Near B a w) (o:Obj):Near B a (w.alloc o):=h.of_below ((Below.refl _ _).alloc (Nat.le_refl _) _)
theorem Near.below {B n:Nat} {w w':World} (h:Near B w w') (hn:n≤B) (hw:n≤w.heap.size):Below n w w' :=
 ⟨h.os,h.tape,h.output,h.size,fun k hk=>h.block k (by omega) (by omega)⟩

structure Dc (cs:Array Value) (g:Nat) (wide long:Bool) (held:List UInt8) (fs:List Hd.Fd):Prop where
 size:cs.size=1109
 c0:cs[0]?=some (.bool wide)
 c1:cs[1]?=some (.bool long)
 c2:cs[2]?=some (.func (.func 134) #[] #[.pointer (some ⟨g,0,none⟩)])
 cz:cs[307]?=some (.int .i64 held.length)
 cn:cs[1108]?=some (.int .i64 fs.length)
 hl:held.length≤304
 fl:fs.length≤400
 hv:∀ i c,held[i]?=some c→cs[3+i]?=some (.int .u8 c.toNat)
 fk:∀ i f,fs[i]?=some f→cs[308+i*2]?=some (.int .i64 f.kind)
 ft:∀ i f,fs[i]?=some f→cs[308+i*2+1]?=some (.string (txt f.text))
theorem set_ne {cs:Array Value} {i j:Nat} {v:Value} (h:i≠j):(cs.setIfInBounds i v)[j]?=cs[j]?:=Array.getElem?_setIfInBounds_ne h
theorem set_eq {cs:Array Value} {i:Nat} {v:Value} (h:i<cs.size):(cs.setIfInBounds i v)[i]?=some v:=by
 rw [Array.getElem?_setIfInBounds_self,if_pos h]
theorem set_size {cs:Array Value} {i:Nat} {v:Value}:(cs.setIfInBounds i v).size=cs.size:=Array.size_setIfInBounds ..
theorem get_lt {α:Type} {l:List α} {i:Nat} {x:α} (h:l[i]?=some x):i<l.length:=(List.getElem?_eq_some_iff.1 h).1
theorem Dc.setLong {cs:Array Value} {g:Nat} {wide long:Bool} {held:List UInt8} {fs:List Hd.Fd} (h:Dc cs g wide long held fs) (b:Bool):Dc (cs.setIfInBounds 1 (.bool b)) g wide b held fs where
 size:=by rw [set_size,h.size]
 c0:=by rw [set_ne (by decide)];exact h.c0
 c1:=set_eq (by rw [h.size];decide)
 c2:=by rw [set_ne (by decide)];exact h.c2
 cz:=by rw [set_ne (by decide)];exact h.cz
 cn:=by rw [set_ne (by decide)];exact h.cn
 hl:=h.hl
 fl:=h.fl
 hv:=fun i c hc=>by rw [set_ne (by omega)];exact h.hv i c hc
 fk:=fun i f hf=>by rw [set_ne (by omega)];exact h.fk i f hf
 ft:=fun i f hf=>by rw [set_ne (by omega)];exact h.ft i f hf
theorem Dc.clear {cs:Array Value} {g:Nat} {wide long:Bool} {held:List UInt8} {fs:List Hd.Fd} (h:Dc cs g wide long held fs):Dc (cs.setIfInBounds 307 (.int .i64 0)) g wide long [] fs where
 size:=by rw [set_size,h.size]
 c0:=by rw [set_ne (by decide)];exact h.c0
 c1:=by rw [set_ne (by decide)];exact h.c1
 c2:=by rw [set_ne (by decide)];exact h.c2
 cz:=set_eq (by rw [h.size];decide)
 cn:=by rw [set_ne (by decide)];exact h.cn
 hl:=by simp
 fl:=h.fl
 hv:=fun i c hc=>by simp at hc
 fk:=fun i f hf=>by have:=get_lt hf;rw [set_ne (by omega)];exact h.fk i f hf
 ft:=fun i f hf=>by have:=get_lt hf;rw [set_ne (by omega)];exact h.ft i f hf
theorem Dc.put {cs:Array Value} {g:Nat} {wide long:Bool} {held:List UInt8} {fs:List Hd.Fd} (h:Dc cs g wide long held fs) (c:UInt8) (hlt:held.length<304) (s:Int) (hs:s=((held.length+1:Nat):Int)) :
  Dc ((cs.setIfInBounds (3+held.length) (.int .u8 c.toNat)).setIfInBounds 307 (.int .i64 s)) g wide long (held ++ [c]) fs where
 size:=by rw [set_size,set_size,h.size]
 c0:=by rw [set_ne (by decide),set_ne (by omega)];exact h.c0
 c1:=by rw [set_ne (by decide),set_ne (by omega)];exact h.c1
 c2:=by rw [set_ne (by decide),set_ne (by omega)];exact h.c2
 cz:=by rw [set_eq (by rw [set_size,h.size];decide),hs];simp
 cn:=by rw [set_ne (by decide),set_ne (by omega)];exact h.cn
 hl:=by simp;omega
 fl:=h.fl
 hv:=fun i d hd=>by
  rw [set_ne (by have:=get_lt hd;simp at this;omega)]
  by_cases e:i=held.length
  ·subst e
   rw [set_eq (by rw [h.size];omega)]
   simp at hd
   rw [hd]
  ·have hi:=get_lt hd
   simp at hi
   rw [set_ne (by omega)]
   rw [List.getElem?_append_left (by omega)] at hd
   exact h.hv i d hd
 fk:=fun i f hf=>by have:=get_lt hf;rw [set_ne (by omega),set_ne (by omega)];exact h.fk i f hf
 ft:=fun i f hf=>by have:=get_lt hf;rw [set_ne (by omega),set_ne (by omega)];exact h.ft i f hf
theorem Dc.found {cs:Array Value} {g:Nat} {wide long:Bool} {held:List UInt8} {fs:List Hd.Fd} (h:Dc cs g wide long held fs) (f:Hd.Fd) (hlt:fs.length<400) (s:Int) (hs:s=((fs.length+1:Nat):Int)) :
  Dc (((cs.setIfInBounds (308+fs.length*2) (.int .i64 f.kind)).setIfInBounds (308+fs.length*2+1) (.string (txt f.text))).setIfInBounds 1108 (.int .i64 s)) g wide long held (fs ++ [f]) where
 size:=by rw [set_size,set_size,set_size,h.size]
 c0:=by rw [set_ne (by decide),set_ne (by omega),set_ne (by omega)];exact h.c0
 c1:=by rw [set_ne (by decide),set_ne (by omega),set_ne (by omega)];exact h.c1
 c2:=by rw [set_ne (by decide),set_ne (by omega),set_ne (by omega)];exact h.c2
 cz:=by rw [set_ne (by decide),set_ne (by omega),set_ne (by omega)];exact h.cz
 cn:=by rw [set_eq (by rw [set_size,set_size,h.size];decide),hs];simp
 hl:=h.hl
 fl:=by simp;omega
 hv:=fun i d hd=>by have:=get_lt hd;have:=h.hl;rw [set_ne (by omega),set_ne (by omega),set_ne (by omega)];exact h.hv i d hd
 fk:=fun i d hd=>by
  have hi:=get_lt hd
  simp at hi
  rw [set_ne (by omega)]
  by_cases e:i=fs.length
  ·subst e
   rw [set_ne (by omega),set_eq (by rw [h.size];omega)]
   simp at hd
   rw [hd]
  ·rw [set_ne (by omega),set_ne (by omega)]
   rw [List.getElem?_append_left (by omega)] at hd
   exact h.fk i d hd
 ft:=fun i d hd=>by
  have hi:=get_lt hd
  simp at hi
  rw [set_ne (by omega)]
  by_cases e:i=fs.length
  ·subst e
   rw [set_eq (by rw [set_size,h.size];omega)]
   simp at hd
   rw [hd]
  ·rw [set_ne (by omega),set_ne (by omega)]
   rw [List.getElem?_append_left (by omega)] at hd
   exact h.ft i d hd
def Dw (w:World) (B g:Nat) (wide long:Bool) (held:List UInt8) (fs:List Hd.Fd):Prop:=∃ cs,w.heap[B]?=some (.cells cs 154)∧Dc cs g wide long held fs
theorem Dw.same {w w':World} {B g:Nat} {wide long:Bool} {held:List UInt8} {fs:List Hd.Fd} (h:Dw w B g wide long held fs) (hb:w'.heap[B]?=w.heap[B]?):Dw w' B g wide long held fs:=by
 obtain ⟨cs,h1,h2⟩:=h
 exact ⟨cs,hb.trans h1,h2⟩
theorem Dw.lt {w:World} {B g:Nat} {wide long:Bool} {held:List UInt8} {fs:List Hd.Fd} (h:Dw w B g wide long held fs):B<w.heap.size:=by
 obtain ⟨cs,h1,h2⟩:=h
 exact (Array.getElem?_eq_some_iff.1 h1).1

set_option maxHeartbeats 1000000 in
theorem putW (w:World) (B g:Nat) (wide long:Bool) (held:List UInt8) (fs:List Hd.Fd) (c:UInt8) (h:Dw w B g wide long held fs) :
  Calls Tryz.prog 136 #[.pointer (some ⟨B,0,none⟩),.int .u8 c.toNat] w fun e w'=>e=.returned (.tuple #[]) ∧
   Dw w' B g wide (if held.length=304 then true else long) (if held.length=304 then held else held ++ [c]) fs∧Near B w w':=by
 obtain ⟨cs,hB,hd⟩:=h
 have e1:w.cell? ⟨B,307,none⟩=some (.int .i64 held.length):=by rw [cell_of_row _ _ _ _ _ _ hB];exact hd.cz
 have e2:w.cell? ⟨B,1,none⟩=some (.bool long):=by rw [cell_of_row _ _ _ _ _ _ hB];exact hd.c1
 have f1:=frz hB 307
 have f2:=frz hB 1
 have hl:=hd.hl
 have HB:=hide hB
 have HD:=hide hd
 by_cases hf:held.length=304
 ·rw [if_pos hf,if_pos hf]
  have d1:((held.length:Int) == 304)=true:=beq_iff_eq.2 (by omega)
  clear hB hd
  go_enter Tryz.func136,Tryz.ntmps136
  go_wp2
  refine bodyPost_ret (v:=.tuple #[]) (by simp [results,Tryz.results136,go_sem]) rfl ⟨rfl,⟨_,heap_setCell_same w B 1 _ _ _ (uh HB),(uh HD).setLong true⟩,(Near.refl _ _).setCell 1 _⟩
 ·rw [if_neg hf,if_neg hf]
  have d1:((held.length:Int) == 304)=false:=beq_eq_false_iff_ne.2 (by omega)
  have hlt:held.length<304:=by omega
  have f3:=frz hB (3+held.length)
  obtain ⟨v3,e3⟩:∃ v,w.cell? ⟨B,3+held.length,none⟩=some v:=by
   rw [cell_of_row _ _ _ _ _ _ hB]
   exact ⟨_,Array.getElem?_eq_getElem (by rw [hd.size];omega)⟩
  clear hB hd
  go_enter Tryz.func136,Tryz.ntmps136
  go_wp2_with fail
  have n1:¬ (307=3+held.length):=by omega
  have n2:¬ (3+held.length=307):=by omega
  have n3:¬ (304=held.length):=by omega
  go_region
  go_wp2
  have e7:((held.length:Int)+1)=((held.length+1:Nat):Int):=by omega
  refine bodyPost_end (v:=.tuple #[]) (by simp [results,Tryz.results136,go_sem]) rfl ⟨rfl,⟨_,heap_setCell_same _ B 307 _ _ _ (heap_setCell_same w B (3+held.length) _ _ _ (uh HB)),(uh HD).put c hlt _ e7⟩,(((Near.refl _ _).setCell (3+held.length) _).drew).setCell 307 _⟩
set_option maxHeartbeats 1000000 in
theorem tellW (w:World) (B g:Nat) (wide long:Bool) (held:List UInt8) (fs:List Hd.Fd) (f:Hd.Fd) (h:Dw w B g wide long held fs) :
  Calls Tryz.prog 137 #[.pointer (some ⟨B,0,none⟩),.agg #[.int .i64 f.kind,.string (txt f.text)]] w fun e w'=>e=.returned (.tuple #[]) ∧
   Dw w' B g wide false [] (if fs.length<400 then fs ++ [f] else fs)∧Near B w w':=by
 have hBw:=h.lt
 obtain ⟨cs,hB,hd⟩:=h
 have e0:w.cell? ⟨B,307,none⟩=some (.int .i64 held.length):=by rw [cell_of_row _ _ _ _ _ _ hB];exact hd.cz
 have e1:w.cell? ⟨B,1,none⟩=some (.bool long):=by rw [cell_of_row _ _ _ _ _ _ hB];exact hd.c1
 have e2:w.cell? ⟨B,1108,none⟩=some (.int .i64 fs.length):=by rw [cell_of_row _ _ _ _ _ _ hB];exact hd.cn
 have f0:=frz hB 307
 have f1:=frz hB 1
 have f2:=frz hB 1108
 have hl:=hd.fl
 have hne:¬ (B=w.heap.size):=by omega
 have HB:=hide hB
 have HD:=hide hd
 by_cases hf:fs.length<400
 ·rw [if_pos hf]
  have d1:(fs.length:Int)<400:=by omega
  have f3:=frz hB (308+fs.length*2)
  have f4:=frz hB (308+fs.length*2+1)
  obtain ⟨v3,e3⟩:∃ v,w.cell? ⟨B,308+fs.length*2,none⟩=some v:=by
   rw [cell_of_row _ _ _ _ _ _ hB]
   exact ⟨_,Array.getElem?_eq_getElem (by rw [hd.size];omega)⟩
  obtain ⟨v4,e4⟩:∃ v,w.cell? ⟨B,308+fs.length*2+1,none⟩=some v:=by
   rw [cell_of_row _ _ _ _ _ _ hB]
   exact ⟨_,Array.getElem?_eq_getElem (by rw [hd.size];omega)⟩
  clear hB hd
  have HF:Hid (∀ s:Int,s=((fs.length+1:Nat):Int)→Dc ((((((cs.setIfInBounds 1 (.bool false)).setIfInBounds 307 (.int .i64 0)).setIfInBounds (308+fs.length*2) (.int .i64 f.kind)).setIfInBounds (308+fs.length*2+1) (.string (txt f.text))).setIfInBounds 1108 (.int .i64 s))) g wide false [] (fs ++ [f])) :=
   hide fun s hs=>(((uh HD).setLong false).clear).found f hf s hs
  generalize f.kind=K at *
  generalize txt f.text=T at *
  have n1:¬ (1108=308+fs.length*2):=by omega
  have n2:¬ (1108=308+fs.length*2+1):=by omega
  have n3:¬ (308+fs.length*2=1108):=by omega
  have n4:¬ (308+fs.length*2+1=1108):=by omega
  have n5:¬ (800=fs.length*2):=by omega
  have n6:¬ (799=fs.length*2):=by omega
  have n7:¬ (307=308+fs.length*2):=by omega
  have n8:¬ (1=308+fs.length*2):=by omega
  go_enter Tryz.func137,Tryz.ntmps137
  go_wp2_with fail
  go_region
  go_wp2
  have e7:((fs.length:Int)+1)=((fs.length+1:Nat):Int):=by omega
  refine bodyPost_end (v:=.tuple #[]) (by simp [results,Tryz.results137,go_sem]) rfl ⟨rfl,⟨_,?_,uh HF _ e7⟩,?_⟩
  ·refine (Below.heap_alloc _ _ _ ?_).trans ?_
   ·simpa [World.setCell] using hBw
   ·exact heap_setCell_same _ B 1108 _ _ _ (heap_setCell_same _ B _ _ _ _ (heap_setCell_same _ B _ _ _ _ (heap_setCell_same _ B _ _ _ _ (heap_setCell_same w B 1 _ _ _ (uh HB)))))
  ·exact (((((((Near.refl _ _).setCell 1 _).setCell 307 _).setCell _ _).setCell _ _).setCell 1108 _).alloc _).drew
 ·rw [if_neg hf]
  have d1:¬ ((fs.length:Int)<400):=by omega
  clear hB hd
  go_enter Tryz.func137,Tryz.ntmps137
  go_wp2
  refine bodyPost_end (v:=.tuple #[]) (by simp [results,Tryz.results137,go_sem]) rfl ⟨rfl,⟨_,?_,((uh HD).setLong false).clear⟩,(((Near.refl _ _).setCell 1 _).setCell 307 _).alloc _⟩
  refine (Below.heap_alloc _ _ _ ?_).trans (heap_setCell_same _ B 307 _ _ _ (heap_setCell_same w B 1 _ _ _ (uh HB)))
  simpa [World.setCell] using hBw
end Go.Proofs.YtkcghhkkepndnaaGreatDoor
namespace Go.Proofs.YtkcghhkkepndnaaGreatDoor
open Go.RowKit
def RowB (w:World) (base:Nat) (v:Value) (l:List UInt8):Prop :=
 (v=.slice none 0 0∧l=[])∨∃ g cap cur fz,v=.slice (some ⟨g,0,none⟩) l.length cap∧base≤g∧w.heap[g]?=some (.cells cur 5 fz)∧l.length≤cap∧cap≤maxLen∧cap≤cur.size∧cur.toList.take l.length=vals l∧∀ i,i<cap→¬ (fz.1≤i∧i<fz.2)
structure Kb (base:Nat) (w w':World):Prop where
 below:Below base w w'
 block:∀ g,g<w.heap.size→(∀ cur fz,w.heap[g]?≠some (.cells cur 5 fz))→w'.heap[g]?=w.heap[g]?
theorem RowB.nil (w:World) (base:Nat):RowB w base (.slice none 0 0) []:=Or.inl ⟨rfl,rfl⟩
theorem RowB.own {w:World} {base:Nat} {v:Value} {l:List UInt8} (h:w.ownsRow base 5 1 v l.length (vals l)):RowB w base v l:=by
 rcases h.2 with ⟨h1,h2⟩ | ⟨g,cap,cur,h1,h2,h3,h4,h5,h6,h7⟩
 ·exact Or.inl ⟨h1,List.eq_nil_of_length_eq_zero h2⟩
 ·exact Or.inr ⟨g,cap,cur,(0,0),h1,h2,h3,h4,h5,by omega,by rw [Nat.mul_one] at h7;exact h7,fun i _ h=>by simp at h⟩
theorem RowB.keep {w w':World} {base:Nat} {v:Value} {l:List UInt8} (h:RowB w base v l) (hk:∀ g cur fz,base≤g→w.heap[g]?=some (.cells cur 5 fz)→w'.heap[g]?=w.heap[g]?):RowB w' base v l:=by
 rcases h with h | ⟨g,cap,cur,fz,h1,h2,h3,h4⟩
 ·exact Or.inl h
 ·exact Or.inr ⟨g,cap,cur,fz,h1,h2,(hk g cur fz h2 h3).trans h3,h4⟩
theorem RowB.form {w:World} {base:Nat} {v:Value} {l:List UInt8} (h:RowB w base v l):∃ ad cp,v=.slice ad l.length cp:=by
 rcases h with ⟨rfl,rfl⟩ | ⟨g,cap,cur,fz,h1,_⟩
 ·exact ⟨_,_,rfl⟩
 ·exact ⟨_,_,h1⟩
theorem vals_get (l:List UInt8) (i:Nat):(vals l)[i]?=l[i]?.map fun (c:UInt8)=>Value.int .u8 (c.toNat:Int):=by simp [vals,nums,Function.comp_def]
theorem row_cell {w:World} {g:Nat} {cur:Array Value} {fz:Nat × Nat} {l:List UInt8} (h3:w.heap[g]?=some (.cells cur 5 fz)) (h7:cur.toList.take l.length=vals l) (i:Nat) (hi:i<l.length):w.cell? ⟨g,i,none⟩=(vals l)[i]?:=by
 rw [cell_of_row _ _ _ _ _ _ h3,← h7,List.getElem?_take,if_pos hi,Array.getElem?_toList]
theorem RowB.conv {w:World} {base:Nat} {v:Value} {l:List UInt8} (h:RowB w base v l):(convert 22 9 v).run Tryz.prog w=.ok (.string (txt l)) w:=by
 rcases h with ⟨rfl,rfl⟩ | ⟨g,cap,cur,fz,rfl,_,h3,_,_,_,h7,_⟩
 ·exact own_conv (World.ownsRow_nil w 0 5 1)
 ·refine run_convert_bytes_back (P:=Tryz.prog) w 22 9 5 ⟨g,0,none⟩ cap l Tryz.underlying22 Tryz.underlying5 Tryz.underlying9 (fun j hj=>?_)
  rw [Addr.add_lit,Nat.zero_add,row_cell h3 h7 j hj,vals_get,List.getElem?_eq_getElem hj]
  rfl
theorem rowB_of (t:ByteArray) (W:World) (ht:t.size≤100000):∃ v W',(convert 9 22 (.string t)).run Tryz.prog W=.ok v W'∧RowB W' W.heap.size v t.data.toList∧Below W.heap.size W W':=by
 have h:=run_bytes_of_string (P:=Tryz.prog) W 9 22 5 t Tryz.underlying9 Tryz.underlying22 Tryz.underlying5
 have hg:=grownCap_ge W t.size 0 5
 have hm:=grownCap_le_maxLen W t.size 0 5 (by unfold maxLen;omega)
 have hl:t.data.toList.length=t.size:=by rw [Array.length_toList];rfl
 refine ⟨_,_,h,Or.inr ⟨W.heap.size,grownCap W t.size 0 5,_,_,by rw [hl],Nat.le_refl _,heap_alloc_new W.drew _,by rw [hl];exact hg,hm,?_,?_,?_⟩,(Below.refl _ _).drew.alloc (Nat.le_refl _) _⟩
 ·simp [bytesRow];omega
 ·rw [hl]
  simp only [bytesRow,Array.toList_append,Array.toList_map]
  rw [List.take_left' (by simp)]
  simp [vals,nums,Function.comp_def]
 ·intro i hi h2
  simp [bytesRow] at h2
  omega
theorem take_set {α:Type} (L:List α) (n:Nat) (x:α) (h:n<L.length):(L.set n x).take (n+1)=L.take n ++ [x]:=by
 rw [List.take_succ_eq_append_getElem (by rw [List.length_set];exact h),List.getElem_set_self,List.take_set_of_le (Nat.le_refl _)]
theorem append_b {wr:World} {ops:Array Oper} {rest:List Oper} {o:Oper} {a:Act} {Q:Exit→Act→World→Prop} (hgd:o.guard=none) (s x:Operand)
  (ho:o.op=.call { callee:=.builtin .append,args:=#[s,x],argTypes:=#[22,22] })
  (base:Nat) (v:Value) (l:List UInt8) (c:UInt8) (hs:a.eval s=v) (hown:RowB wr base v l)
  (X:Int) (hX:X=(c.toNat:Int)) (hx:a.eval x=.slice (some ⟨wr.heap.size,0,none⟩) 1 1) (hlen:l.length≤1000000) (hbase:base≤wr.heap.size)
  (h:∀ v' w',RowB w' base v' (l ++ [c])→Kb base wr w'→wpList Tryz.prog ops Q rest (a.put o.dst v') w'):wpList Tryz.prog ops Q (o :: rest) a (wr.alloc (.cells #[.int .u8 X] 5)):=by
 obtain ⟨ui,hi1,hi2,hi3,hi4⟩:=u8info
 subst hX
 have hb0:Below base wr (wr.alloc (.cells #[.int .u8 c.toNat] 5)):=(Below.refl _ _).alloc hbase _
 have hold:∀ g,g<wr.heap.size→(wr.alloc (.cells #[.int .u8 c.toNat] 5)).heap[g]?=wr.heap[g]?:=fun g hg=>Below.heap_alloc _ _ _ hg
 have hnew:∀ j u,(vals [c])[j]?=some u→(wr.alloc (.cells #[.int .u8 c.toNat] 5)).cell? ((⟨wr.heap.size,0,none⟩:Addr).add j)=some u:=by
  intro j u hu
  rw [Addr.add_lit,Nat.zero_add,cell_of_row _ _ _ _ _ _ (heap_alloc_new wr _),← hu,vals_one,← Array.getElem?_toList]
 have hone:∀ u ∈ vals [c],u.oneCell'=true:=by
  intro u hu
  rw [vals_one,List.mem_singleton] at hu
  subst hu
  rfl
 have fin:∀ v' w',w'.ownsRow (wr.alloc (.cells #[.int .u8 c.toNat] 5)).heap.size 5 1 v' (l.length+1) (vals l ++ vals [c])→(wr.alloc (.cells #[.int .u8 c.toNat] 5)).grownBy w' none→wpList Tryz.prog ops Q rest (a.put o.dst v') w':=by
  intro v' w' h1 h2
  refine h v' w' (RowB.own ?_) ⟨hb0.grown h2 (by simp;omega) (fun q hq=>by cases hq),fun g hg _=>(h2.block g (by simp;omega) (by simp)).trans (hold g hg)⟩
  rw [vals_append,List.length_append]
  exact ⟨h1.1,h1.2.imp id fun ⟨g,cap,cur,p1,p2,p3⟩=>⟨g,cap,cur,p1,by simp at p2;omega,p3⟩⟩
 rcases hown with ⟨rfl,rfl⟩ | ⟨g,cap,cur,fz,rfl,q2,q3,q4,q5,q6,q7,q8⟩
 ·exact wpList_append_grows _ hgd s x 22 ho 5 ui (.int .u8 0) 1 1 Tryz.underlying22 hi1 hi2 hi3 hi4 rfl (by decide) none 0 0 (vals []) hs (fun _=>⟨rfl,rfl⟩) rfl (fun b hb=>by cases hb) ⟨wr.heap.size,0,none⟩ 1 1 (vals [c]) hx rfl hnew hone (by decide) (by decide) (by decide) fin
 ·have hgl:g<wr.heap.size:=(Array.getElem?_eq_some_iff.1 q3).1
  have q3':(wr.alloc (.cells #[.int .u8 c.toNat] 5)).heap[g]?=some (.cells cur 5 fz):=(hold g hgl).trans q3
  refine wpList_append_arg _ hgd s x 22 ho 5 ui (.int .u8 0) 1 1 Tryz.underlying22 hi1 hi2 hi3 hi4 rfl (by decide) g 0 l.length cap (vals l) hs (by rw [vals_len,Nat.mul_one]) ?_ ⟨wr.heap.size,0,none⟩ 1 1 (vals [c]) hx rfl hnew hone ?_ (by unfold maxLen;omega) (by omega) ?_ (fun _=>fin)
  ·intro j u hu
   have hj:j<l.length:=by have:=(List.getElem?_eq_some_iff.1 hu).1;rwa [vals_len] at this
   rw [Nat.zero_add,row_cell q3' q7 j hj,hu]
  ·intro hroom j hj
   have hj0:j=0:=by rw [vals_one] at hj;simpa using hj
   subst hj0
   refine ⟨?_,?_⟩
   ·rw [cell_of_row _ _ _ _ _ _ q3',Array.getElem?_eq_getElem (by omega)]
    rfl
   ·unfold World.frozen?
    rw [q3']
    have:=q8 l.length (by omega)
    simp
    omega
  ·intro hroom
   have e:(wr.alloc (.cells #[.int .u8 c.toNat] 5)).setCells g (0+l.length*1) (vals [c])=(wr.alloc (.cells #[.int .u8 c.toNat] 5)).setCell ⟨g,l.length,none⟩ (.int .u8 c.toNat):=by
    rw [Nat.zero_add,Nat.mul_one]
    rfl
   rw [e]
   refine h _ _ (Or.inr ⟨g,cap,cur.setIfInBounds l.length (.int .u8 c.toNat),fz,by rw [List.length_append];rfl,q2,?_,by rw [List.length_append];exact hroom,q5,by simpa using q6,?_,q8⟩) ⟨hb0.setCell (p:=⟨g,l.length,none⟩) q2 _,?_⟩
   ·rw [setCell_eq_setRow _ g l.length cur 5 fz _ q3']
    exact setRow_heap _ g cur _ 5 _ q3'
   ·rw [vals_append,List.length_append,← q7]
    rw [show ([c]:List UInt8).length=1 from rfl,Array.toList_setIfInBounds,take_set _ _ _ (show l.length<cur.toList.length by have hcl:cur.toList.length=cur.size:=Array.length_toList;omega),vals_one]
   ·intro k hk hne
    have hkg:k≠g:=fun e=>by subst e;exact hne _ _ q3
    exact (Below.heap_setCell _ _ _ _ hkg).trans (hold k hk)
end Go.Proofs.YtkcghhkkepndnaaGreatDoor
