/- Split FsmRow EvN LaidEv PkRow OptArg OptMarks OptSp StrApp PairO Num Asks OptApp AskI PkMarks Reads Reads2 -/
import Derived.Test.YtjdgiimfpkideaaGreatDoorS01
import Derived.Test.YtjdgiimfpkideaaGreatDoorRows
import Derived.Lib.LaidU8
import Derived.OpenVars
import Derived.Deep.OwnRows
set_option maxHeartbeats 4000000
set_option maxRecDepth 100000
namespace Go.Proofs.YtjdgiimfpkideaaGreatDoor
open Go.RowKit Go.Proofs.Tryz
def eV (t:ByteArray) (by_:UInt8) (fr i:Nat):Nat→List ByteArray
 | 0=>[t.extract fr t.size]
 | n+1=>if (t.data.toList[i]?).getD 0 == by_ then t.extract fr i :: eV t by_ (i+1) (i+1) n else eV t by_ fr (i+1) n
def bR (t:ByteArray) (by_:UInt8):List ByteArray:=eV t by_ 0 0 t.size
theorem jG (t:ByteArray) (by_:UInt8) (w:World) (ht:t.size≤100000) :
  Calls prog 98 #[.string t,.int .u8 by_.toNat] w fun e w'=>∃ ad cp,e=.returned (.slice ad (bR t by_).length cp)∧w'.ownsRow w.heap.size 9 1 (.slice ad (bR t by_).length cp) (bR t by_).length (a_ (bR t by_))∧Below w.heap.size w w':=by
 have hw0:(w.alloc (.cells #[] 9)).ownsRow w.heap.size 9 1 (.slice (some ⟨w.heap.size,0,none⟩) 0 0) ([]:List ByteArray).length (a_ []):=World.ownsRow_lit w #[] 0 (zD _) (Nat.zero_le _) rfl;have hb0:Below w.heap.size w (w.alloc (.cells #[] 9)):=(zC _ _).alloc (zD _) _;have HS:Hid (eV t by_ 0 0 (t.size - 0)=bR t by_):=aa rfl;have H0:=aa (zA hw0 hb0);generalize bR t by_=S at *;clear hw0 hb0;go_enter func98,ntmps98
 go_wp2_with fail
 go_loopw [5,6,7] (fun x y z wr=>∃ (i fr:Nat) (ad:Option Addr) (cp:Nat) (L:List ByteArray),i≤t.size∧fr≤i∧z=.int .i64 i∧y=.int .i64 fr∧x=.slice ad L.length cp∧L.length≤i∧L ++ eV t by_ fr i (t.size - i)=S∧wr.ownsRow w.heap.size 9 1 (.slice ad L.length cp) L.length (a_ L)∧Below w.heap.size w wr) (fun _ _ z _=>t.size - (intOf z).toNat)
 case atStart=>exact ⟨0,0,_,_,[],Nat.zero_le _,zD _,rfl,rfl,rfl,zD _,uh HS,(uh H0).1,(uh H0).2⟩
 case round =>
  obtain ⟨i,fr,ad,cp,L,hi,hfr,rfl,rfl,rfl,hLl,hS,ho,hb⟩:=hrel;clear H0 HS;have hbs:=hb.size;have d3:(0:Int)≤(fr:Int):=by omega
  have d4:(fr:Int)≤(i:Int):=by omega
  have d5:(i:Int)≤(t.size:Int):=by omega
  have d6:(fr:Int)≤(t.size:Int):=by omega
  have HO:=aa ho;have HB:=aa hb;have HSS:=aa hS;clear ho hb hS;by_cases hlt:i<t.size
  ·have d1:(i:Int)<(t.size:Int):=by omega
   have hget:(t.data.toList[i]?).getD 0=t[i]:=by
    rw [List.getElem?_eq_getElem (by rw [Array.length_toList];exact hlt)];rfl
   have HE:Hid (eV t by_ fr i (t.size - i)=if t[i] == by_ then t.extract fr i :: eV t by_ (i+1) (i+1) (t.size - (i+1)) else eV t by_ fr (i+1) (t.size - (i+1))):=aa (by
    rw [show t.size - i=(t.size - (i+1))+1 by omega];simp only [eV];rw [hget])
   clear hget;cases hq:(t[i] == by_)
   ·have hqi:((t[i].toNat:Int) == (by_.toNat:Int))=false:=vC (by simpa using hq);rw [hq,if_neg (by decide)] at HE;go_wp2_with fail
    go_roundw
    case rel=>exact ⟨i+1,fr,ad,cp,L,by omega,by omega,by go_num,rfl,rfl,by omega,by rw [← uh HE];exact uh HSS,uh HO,uh HB⟩
    case measure=>simp [intOf];omega
   ·have hqi:((t[i].toNat:Int) == (by_.toNat:Int))=true:=by rw [eq_of_beq hq];exact beq_self_eq_true _
    rw [hq,if_pos rfl] at HE
    go_wp2_with (first
     | (at_builtin;refine dw rfl _ _ rfl w.heap.size (.slice ad L.length cp) L L.length rfl rfl (uh HO) (t.extract fr i) rfl (by omega) hbs ?_;rintro v6 w6 ho6 hg6;obtain ⟨a6,c6,rfl⟩:=af ho6))
    have hb6:Below w.heap.size w w6:=((uh HB).alloc hbs _).grown hg6 (by simp;omega) (fun q hq=>(World.ownsRow.lt (uh HO) q hq).1);go_roundw
    case rel =>
     have hl1:L.length+1=(L ++ [t.extract fr i]).length:=by rw [List.length_append];rfl
     refine ⟨i+1,i+1,a6,c6,L ++ [t.extract fr i],by omega,by omega,by go_num,by go_num,by rw [← hl1],by rw [← hl1];omega,?_,by rw [← hl1];exact ho6,hb6⟩;rw [← uh HSS,uh HE,List.append_assoc];rfl
    case measure=>simp [intOf];omega
  ·have e:i=t.size:=by omega
   subst e;have d1:¬ ((t.size:Int)<(t.size:Int)):=by omega
   have HE:Hid (L ++ [t.extract fr t.size]=S):=aa (by rw [← uh HSS,Nat.sub_self];rfl);clear HSS
   go_wp2_with (first
    | (at_builtin;refine dw rfl _ _ rfl w.heap.size (.slice ad L.length cp) L L.length rfl rfl (uh HO) (t.extract fr t.size) rfl (by omega) hbs ?_;rintro v6 w6 ho6 hg6;obtain ⟨a6,c6,rfl⟩:=af ho6))
   have hb6:Below w.heap.size w w6:=((uh HB).alloc hbs _).grown hg6 (by simp;omega) (fun q hq=>(World.ownsRow.lt (uh HO) q hq).1);go_ret
   have hl1:L.length+1=S.length:=by rw [← uh HE,List.length_append];rfl
   refine ⟨a6,c6,by rw [← hl1];rfl,?_,hb6⟩;rw [← hl1,← uh HE];exact ho6
def iL:List (List UInt8 × List UInt8):=[([85,112],[47,50,44,105,114,99,32,115,99,114,47,54,44,45,44,45,44,45,44,45,44,45,44,45,44,45,44,45]),
 ([68,111,119,110],[45,44,45,44,47,48,44,116,108,115,47,49,44,47,48,44,47,49,44,47,49,44,47,49,44,47,49,44,116,108,100,47,49]),
 ([79,112,101,110],[116,108,115,47,49,44,47,49,44,105,114,99,32,115,99,114,47,54,44,47,51,44,47,53,44,47,53,44,47,54,44,47,55,44,47,56,44,47,57]),
 ([67,108,111,115,101],[47,48,44,116,108,102,47,48,44,47,50,44,47,50,44,47,52,44,47,52,44,105,114,99,32,115,116,114,47,52,44,105,114,99,32,115,116,114,47,52,44,105,114,99,32,115,116,114,47,52,44,116,108,100,32,105,114,99,32,115,116,114,47,52]),
 ([84,79,43],[45,44,45,44,45,44,45,44,115,116,114,47,52,44,115,116,114,47,53,44,115,99,114,47,54,44,115,99,114,47,54,44,115,99,114,47,56,44,45]),
 ([84,79,45],[45,44,45,44,45,44,45,44,116,108,102,47,50,44,116,108,102,47,51,44,116,108,102,47,51,44,116,108,102,47,51,44,116,108,102,47,51,44,45]),
 ([82,67,82,43],[45,44,45,44,115,116,97,47,50,44,105,114,99,32,115,99,114,32,115,99,97,47,56,44,47,52,44,47,53,44,115,99,97,47,56,44,115,99,97,32,116,108,117,47,57,44,115,99,97,47,56,44,116,108,100,32,115,99,114,32,115,99,97,47,56]),
 ([82,67,82,45],[45,44,45,44,115,116,97,47,50,44,105,114,99,32,115,99,114,32,115,99,110,47,54,44,47,52,44,47,53,44,115,99,110,47,54,44,115,99,110,47,55,44,115,99,110,47,54,44,116,108,100,32,115,99,114,32,115,99,110,47,54]),
 ([82,67,65],[45,44,45,44,115,116,97,47,50,44,115,116,97,47,51,44,47,52,44,47,53,44,105,114,99,47,55,44,115,99,114,47,54,44,105,114,99,32,116,108,117,47,57,44,116,108,100,32,115,99,114,47,54]),
 ([82,67,78],[45,44,45,44,115,116,97,47,50,44,115,116,97,47,51,44,47,52,44,47,53,44,105,114,99,32,115,99,114,47,54,44,115,99,114,47,54,44,105,114,99,32,115,99,114,47,56,44,116,108,100,32,115,99,114,47,54]),
 ([82,84,82],[45,44,45,44,115,116,97,47,50,44,115,116,97,47,51,44,115,116,97,47,52,44,115,116,97,47,53,44,115,116,97,47,54,44,115,116,97,47,54,44,115,116,97,47,54,44,116,108,100,32,122,114,99,32,115,116,97,47,53]),
 ([82,84,65],[45,44,45,44,47,50,44,47,51,44,116,108,102,47,50,44,116,108,102,47,51,44,47,54,44,47,54,44,47,56,44,116,108,100,32,115,99,114,47,54]),
 ([82,85,67],[45,44,45,44,115,99,106,47,50,44,115,99,106,47,51,44,115,99,106,47,52,44,115,99,106,47,53,44,115,99,106,47,54,44,115,99,106,47,55,44,115,99,106,47,56,44,115,99,106,47,57]),
 ([82,88,74,43],[45,44,45,44,47,50,44,47,51,44,47,52,44,47,53,44,47,54,44,47,54,44,47,56,44,47,57]),
 ([82,88,74,45],[45,44,45,44,116,108,102,47,50,44,116,108,102,47,51,44,116,108,102,47,50,44,116,108,102,47,51,44,116,108,102,47,51,44,116,108,102,47,51,44,116,108,102,47,51,44,116,108,100,32,105,114,99,32,115,116,114,47,53]),
 ([82,88,82],[45,44,45,44,47,50,44,47,51,44,47,52,44,47,53,44,47,54,44,47,55,44,47,56,44,115,101,114,47,57])]
def aW (t:ByteArray):ByteArray:=co (((iL.find? fun x=>x.1 == t.toList).map fun x=>x.2).getD [])
def ba:List ByteArray:=iL.map fun x=>co x.1
theorem cF {t:ByteArray} {l:List UInt8} (h:t.toList=l):t=co l:=by
 rw [ByteArray.toList_eq] at h;rw [← h];rfl
theorem rF (t:ByteArray) (w:World):Calls prog 97 #[.string t] w fun e w'=>e=.returned (.string (aW t))∧w'=w:=by
 by_cases h0:t.toList=[85,112]
 ·have hr:aW t=⟨#[47,50,44,105,114,99,32,115,99,114,47,54,44,45,44,45,44,45,44,45,44,45,44,45,44,45,44,45]⟩:=by
   unfold aW;rw [h0];rfl
  rw [hr,show t=⟨#[85,112]⟩ from cF h0];clear hr;go_enter func97,ntmps97
  go_wp2
  go_ret
  exact ⟨rfl,rfl⟩
 by_cases h1:t.toList=[68,111,119,110]
 ·have hr:aW t=⟨#[45,44,45,44,47,48,44,116,108,115,47,49,44,47,48,44,47,49,44,47,49,44,47,49,44,47,49,44,116,108,100,47,49]⟩:=by
   unfold aW;rw [h1];rfl
  rw [hr,show t=⟨#[68,111,119,110]⟩ from cF h1];clear hr;go_enter func97,ntmps97
  go_wp2
  go_ret
  exact ⟨rfl,rfl⟩
 by_cases h2:t.toList=[79,112,101,110]
 ·have hr:aW t=⟨#[116,108,115,47,49,44,47,49,44,105,114,99,32,115,99,114,47,54,44,47,51,44,47,53,44,47,53,44,47,54,44,47,55,44,47,56,44,47,57]⟩:=by
   unfold aW;rw [h2];rfl
  rw [hr,show t=⟨#[79,112,101,110]⟩ from cF h2];clear hr;go_enter func97,ntmps97
  go_wp2
  go_ret
  exact ⟨rfl,rfl⟩
 by_cases h3:t.toList=[67,108,111,115,101]
 ·have hr:aW t=⟨#[47,48,44,116,108,102,47,48,44,47,50,44,47,50,44,47,52,44,47,52,44,105,114,99,32,115,116,114,47,52,44,105,114,99,32,115,116,114,47,52,44,105,114,99,32,115,116,114,47,52,44,116,108,100,32,105,114,99,32,115,116,114,47,52]⟩:=by
   unfold aW;rw [h3];rfl
  rw [hr,show t=⟨#[67,108,111,115,101]⟩ from cF h3];clear hr;go_enter func97,ntmps97
  go_wp2
  go_ret
  exact ⟨rfl,rfl⟩
 by_cases h4:t.toList=[84,79,43]
 ·have hr:aW t=⟨#[45,44,45,44,45,44,45,44,115,116,114,47,52,44,115,116,114,47,53,44,115,99,114,47,54,44,115,99,114,47,54,44,115,99,114,47,56,44,45]⟩:=by
   unfold aW;rw [h4];rfl
  rw [hr,show t=⟨#[84,79,43]⟩ from cF h4];clear hr;go_enter func97,ntmps97
  go_wp2
  go_ret
  exact ⟨rfl,rfl⟩
 by_cases h5:t.toList=[84,79,45]
 ·have hr:aW t=⟨#[45,44,45,44,45,44,45,44,116,108,102,47,50,44,116,108,102,47,51,44,116,108,102,47,51,44,116,108,102,47,51,44,116,108,102,47,51,44,45]⟩:=by
   unfold aW;rw [h5];rfl
  rw [hr,show t=⟨#[84,79,45]⟩ from cF h5];clear hr;go_enter func97,ntmps97
  go_wp2
  go_ret
  exact ⟨rfl,rfl⟩
 by_cases h6:t.toList=[82,67,82,43]
 ·have hr:aW t=⟨#[45,44,45,44,115,116,97,47,50,44,105,114,99,32,115,99,114,32,115,99,97,47,56,44,47,52,44,47,53,44,115,99,97,47,56,44,115,99,97,32,116,108,117,47,57,44,115,99,97,47,56,44,116,108,100,32,115,99,114,32,115,99,97,47,56]⟩:=by
   unfold aW;rw [h6];rfl
  rw [hr,show t=⟨#[82,67,82,43]⟩ from cF h6];clear hr;go_enter func97,ntmps97
  go_wp2
  go_ret
  exact ⟨rfl,rfl⟩
 by_cases h7:t.toList=[82,67,82,45]
 ·have hr:aW t=⟨#[45,44,45,44,115,116,97,47,50,44,105,114,99,32,115,99,114,32,115,99,110,47,54,44,47,52,44,47,53,44,115,99,110,47,54,44,115,99,110,47,55,44,115,99,110,47,54,44,116,108,100,32,115,99,114,32,115,99,110,47,54]⟩:=by
   unfold aW;rw [h7];rfl
  rw [hr,show t=⟨#[82,67,82,45]⟩ from cF h7];clear hr;go_enter func97,ntmps97
  go_wp2
  go_ret
  exact ⟨rfl,rfl⟩
 by_cases h8:t.toList=[82,67,65]
 ·have hr:aW t=⟨#[45,44,45,44,115,116,97,47,50,44,115,116,97,47,51,44,47,52,44,47,53,44,105,114,99,47,55,44,115,99,114,47,54,44,105,114,99,32,116,108,117,47,57,44,116,108,100,32,115,99,114,47,54]⟩:=by
   unfold aW;rw [h8];rfl
  rw [hr,show t=⟨#[82,67,65]⟩ from cF h8];clear hr;go_enter func97,ntmps97
  go_wp2
  go_ret
  exact ⟨rfl,rfl⟩
 by_cases h9:t.toList=[82,67,78]
 ·have hr:aW t=⟨#[45,44,45,44,115,116,97,47,50,44,115,116,97,47,51,44,47,52,44,47,53,44,105,114,99,32,115,99,114,47,54,44,115,99,114,47,54,44,105,114,99,32,115,99,114,47,56,44,116,108,100,32,115,99,114,47,54]⟩:=by
   unfold aW;rw [h9];rfl
  rw [hr,show t=⟨#[82,67,78]⟩ from cF h9];clear hr;go_enter func97,ntmps97
  go_wp2
  go_ret
  exact ⟨rfl,rfl⟩
 by_cases h10:t.toList=[82,84,82]
 ·have hr:aW t=⟨#[45,44,45,44,115,116,97,47,50,44,115,116,97,47,51,44,115,116,97,47,52,44,115,116,97,47,53,44,115,116,97,47,54,44,115,116,97,47,54,44,115,116,97,47,54,44,116,108,100,32,122,114,99,32,115,116,97,47,53]⟩:=by
   unfold aW;rw [h10];rfl
  rw [hr,show t=⟨#[82,84,82]⟩ from cF h10];clear hr;go_enter func97,ntmps97
  go_wp2
  go_ret
  exact ⟨rfl,rfl⟩
 by_cases h11:t.toList=[82,84,65]
 ·have hr:aW t=⟨#[45,44,45,44,47,50,44,47,51,44,116,108,102,47,50,44,116,108,102,47,51,44,47,54,44,47,54,44,47,56,44,116,108,100,32,115,99,114,47,54]⟩:=by
   unfold aW;rw [h11];rfl
  rw [hr,show t=⟨#[82,84,65]⟩ from cF h11];clear hr;go_enter func97,ntmps97
  go_wp2
  go_ret
  exact ⟨rfl,rfl⟩
 by_cases h12:t.toList=[82,85,67]
 ·have hr:aW t=⟨#[45,44,45,44,115,99,106,47,50,44,115,99,106,47,51,44,115,99,106,47,52,44,115,99,106,47,53,44,115,99,106,47,54,44,115,99,106,47,55,44,115,99,106,47,56,44,115,99,106,47,57]⟩:=by
   unfold aW;rw [h12];rfl
  rw [hr,show t=⟨#[82,85,67]⟩ from cF h12];clear hr;go_enter func97,ntmps97
  go_wp2
  go_ret
  exact ⟨rfl,rfl⟩
 by_cases h13:t.toList=[82,88,74,43]
 ·have hr:aW t=⟨#[45,44,45,44,47,50,44,47,51,44,47,52,44,47,53,44,47,54,44,47,54,44,47,56,44,47,57]⟩:=by
   unfold aW;rw [h13];rfl
  rw [hr,show t=⟨#[82,88,74,43]⟩ from cF h13];clear hr;go_enter func97,ntmps97
  go_wp2
  go_ret
  exact ⟨rfl,rfl⟩
 by_cases h14:t.toList=[82,88,74,45]
 ·have hr:aW t=⟨#[45,44,45,44,116,108,102,47,50,44,116,108,102,47,51,44,116,108,102,47,50,44,116,108,102,47,51,44,116,108,102,47,51,44,116,108,102,47,51,44,116,108,102,47,51,44,116,108,100,32,105,114,99,32,115,116,114,47,53]⟩:=by
   unfold aW;rw [h14];rfl
  rw [hr,show t=⟨#[82,88,74,45]⟩ from cF h14];clear hr;go_enter func97,ntmps97
  go_wp2
  go_ret
  exact ⟨rfl,rfl⟩
 by_cases h15:t.toList=[82,88,82]
 ·have hr:aW t=⟨#[45,44,45,44,47,50,44,47,51,44,47,52,44,47,53,44,47,54,44,47,55,44,47,56,44,115,101,114,47,57]⟩:=by
   unfold aW;rw [h15];rfl
  rw [hr,show t=⟨#[82,88,82]⟩ from cF h15];clear hr;go_enter func97,ntmps97
  go_wp2
  go_ret
  exact ⟨rfl,rfl⟩
 have e0:(t.toList == [85,112])=false:=beq_eq_false_iff_ne.2 h0;have e1:(t.toList == [68,111,119,110])=false:=beq_eq_false_iff_ne.2 h1;have e2:(t.toList == [79,112,101,110])=false:=beq_eq_false_iff_ne.2 h2;have e3:(t.toList == [67,108,111,115,101])=false:=beq_eq_false_iff_ne.2 h3;have e4:(t.toList == [84,79,43])=false:=beq_eq_false_iff_ne.2 h4;have e5:(t.toList == [84,79,45])=false:=beq_eq_false_iff_ne.2 h5;have e6:(t.toList == [82,67,82,43])=false:=beq_eq_false_iff_ne.2 h6;have e7:(t.toList == [82,67,82,45])=false:=beq_eq_false_iff_ne.2 h7;have e8:(t.toList == [82,67,65])=false:=beq_eq_false_iff_ne.2 h8;have e9:(t.toList == [82,67,78])=false:=beq_eq_false_iff_ne.2 h9;have e10:(t.toList == [82,84,82])=false:=beq_eq_false_iff_ne.2 h10;have e11:(t.toList == [82,84,65])=false:=beq_eq_false_iff_ne.2 h11;have e12:(t.toList == [82,85,67])=false:=beq_eq_false_iff_ne.2 h12;have e13:(t.toList == [82,88,74,43])=false:=beq_eq_false_iff_ne.2 h13;have e14:(t.toList == [82,88,74,45])=false:=beq_eq_false_iff_ne.2 h14;have e15:(t.toList == [82,88,82])=false:=beq_eq_false_iff_ne.2 h15;have g0:([85,112] == t.toList)=false:=beq_eq_false_iff_ne.2 (Ne.symm h0);have g1:([68,111,119,110] == t.toList)=false:=beq_eq_false_iff_ne.2 (Ne.symm h1);have g2:([79,112,101,110] == t.toList)=false:=beq_eq_false_iff_ne.2 (Ne.symm h2);have g3:([67,108,111,115,101] == t.toList)=false:=beq_eq_false_iff_ne.2 (Ne.symm h3);have g4:([84,79,43] == t.toList)=false:=beq_eq_false_iff_ne.2 (Ne.symm h4);have g5:([84,79,45] == t.toList)=false:=beq_eq_false_iff_ne.2 (Ne.symm h5);have g6:([82,67,82,43] == t.toList)=false:=beq_eq_false_iff_ne.2 (Ne.symm h6);have g7:([82,67,82,45] == t.toList)=false:=beq_eq_false_iff_ne.2 (Ne.symm h7);have g8:([82,67,65] == t.toList)=false:=beq_eq_false_iff_ne.2 (Ne.symm h8);have g9:([82,67,78] == t.toList)=false:=beq_eq_false_iff_ne.2 (Ne.symm h9);have g10:([82,84,82] == t.toList)=false:=beq_eq_false_iff_ne.2 (Ne.symm h10);have g11:([82,84,65] == t.toList)=false:=beq_eq_false_iff_ne.2 (Ne.symm h11);have g12:([82,85,67] == t.toList)=false:=beq_eq_false_iff_ne.2 (Ne.symm h12);have g13:([82,88,74,43] == t.toList)=false:=beq_eq_false_iff_ne.2 (Ne.symm h13);have g14:([82,88,74,45] == t.toList)=false:=beq_eq_false_iff_ne.2 (Ne.symm h14);have g15:([82,88,82] == t.toList)=false:=beq_eq_false_iff_ne.2 (Ne.symm h15);have hr:aW t=⟨#[]⟩:=by
  unfold aW iL;simp only [List.find?_cons,g0,g1,g2,g3,g4,g5,g6,g7,g8,g9,g10,g11,g12,g13,g14,g15,List.find?_nil];rfl
 rw [hr];clear hr g0 g1 g2 g3 g4 g5 g6 g7 g8 g9 g10 g11 g12 g13 g14 g15 h0 h1 h2 h3 h4 h5 h6 h7 h8 h9 h10 h11 h12 h13 h14 h15;go_enter func97,ntmps97
 go_wp2
 go_ret
 exact ⟨rfl,rfl⟩
def yj (x:ByteArray):Bool:=decide (1≤x.size) && decide (x.size≤30) && (decide (48≤(x.data.toList.getLastD 0).toNat) && decide ((x.data.toList.getLastD 0).toNat≤57) || x.data.toList == [45])
def kQ (r:List UInt8):Bool:=decide ((bR (co r) 44).length=10) && (bR (co r) 44).all yj && decide (1≤r.length) && decide (r.length≤200)
theorem rG:(iL.all fun x=>kQ x.2)=true:=by kernel_rfl
theorem oY (t:ByteArray):aW t=⟨#[]⟩∨kQ (aW t).data.toList=true:=by
 unfold aW;cases h:iL.find? fun x=>x.1 == t.toList with
 | none=>left;rfl
 | some x=>right;exact List.all_eq_true.1 rG x (List.mem_of_find?_eq_some h)
def EvT (w:World):Prop:=∀ (i:Nat) (t:ByteArray),ba[i]?=some t→w.cell? ⟨0,i,none⟩=some (.string t)
theorem EvT.below {w w':World} (h:EvT w) (hb:Below w.heap.size w w'):EvT w':=fun i t ht=>(hb.cell (p:=⟨0,i,none⟩) (World.block_lt_of_cell? _ _ (h i t ht))).trans (h i t ht)
theorem kR:ba.length=16:=rfl
theorem oZ (t:ByteArray) (w:World) (hT:EvT w):Calls prog 84 #[.string t] w fun e w'=>w'=w∧((∃ i:Nat,ba[i]?=some t∧e=.returned (.tuple #[.int .i64 i,.bool true]))∨((∀ i:Nat,ba[i]?≠some t)∧e=.returned (.tuple #[.int .i64 0,.bool false]))):=by
 have hl:=kR;have HT:Hid (∀ (i:Nat) (h:i<ba.length),w.cell? ⟨0,i,none⟩=some (.string ba[i])):=aa fun i h=>hT i _ (List.getElem?_eq_getElem h)
 clear hT;generalize ba=L at *;go_enter func84,ntmps84
 go_wp2_with fail
 go_loop [4,5] (fun x y=>∃ (i:Nat),i≤16∧y=.int .i64 i∧∀ j:Nat,j<i→L[j]?≠some t) (fun x y=>16 - (intOf y).toNat)
 case atStart=>exact ⟨0,Nat.zero_le _,rfl,fun j h=>absurd h (Nat.not_lt_zero _)⟩
 case round =>
  obtain ⟨i,hi,rfl,hf⟩:=hrel;have HF:=aa hf;clear hf;by_cases hlt:i<16
  ·have d1:(i:Int)<16:=by omega
   have d0:(0:Int)≤(i:Int):=by omega
   have k1:=uh HT i (by omega);obtain ⟨x,hx⟩:∃ x,L[i]'(by omega)=x:=⟨_,rfl⟩;rw [hx] at k1;have HX:Hid (L[i]?=some x):=aa (by rw [List.getElem?_eq_getElem (by omega),hx]);clear hx HT;cases hq:(x.toList == t.toList)
   ·go_wp2_with fail
    go_round
    case rel =>
     refine ⟨i+1,by omega,by go_num,fun j hj e=>?_⟩;by_cases hji:j<i
     ·exact uh HF j hji e
     ·have:j=i:=by omega
      subst this;rw [uh HX] at e;rw [Option.some.inj e,beq_self_eq_true] at hq;cases hq
    case measure=>simp [intOf];omega
   ·have hxt:x=t:=by
     have:=eq_of_beq hq
     rw [ByteArray.toList_eq,ByteArray.toList_eq] at this;exact ByteArray.ext (Array.toList_inj.1 this)
    go_wp2
    exact bodyPost_ret (v:=.tuple #[.int .i64 i,.bool true]) (by simp [results,results84,go_sem]) rfl ⟨rfl,Or.inl ⟨i,by rw [uh HX,hxt],rfl⟩⟩
  ·have e:i=16:=by omega
   subst e;clear HT;go_wp2
   refine bodyPost_ret (v:=.tuple #[.int .i64 0,.bool false]) (by simp [results,results84,go_sem]) rfl ⟨rfl,Or.inr ⟨fun j hj=>?_,rfl⟩⟩;by_cases hj16:j<16
   ·exact uh HF j hj16 hj
   ·rw [List.getElem?_eq_none (by omega)] at hj;cases hj
end Go.Proofs.YtjdgiimfpkideaaGreatDoor
namespace Go.Proofs.YtjdgiimfpkideaaGreatDoor
open Go.Proofs.Tryz
open Go.ChangeShapes Go.WideShapes Go.ChangeAt Go.RowKit
theorem own:ownKnob prog.godebug=none:=by kernel_rfl
theorem evG : prog.globalNamed "loop.example/g00351/impl.eventNames" = some 0 := by kernel_rfl
theorem o6:(prog.globals[0]?).map (·.type)=some 152:=by kernel_rfl
theorem oo:prog.cellsOf 9=1:=by kernel_rfl
theorem tQ:(Rows.laid_loop_example_g00351_impl_eventNames:DataW Unit)=.agg (iL.map fun x=>.lit (.string x.1)):=by kernel_rfl
theorem tR {W : World} (h : Lib.VarReads prog W "loop.example/g00351/impl.eventNames" Rows.laid_loop_example_g00351_impl_eventNames) : EvT W := by
 rw [tQ] at h;obtain ⟨g,t,cs,fuel,p,hg,hty,hvar,hd⟩:=h;obtain rfl:=Option.some.inj (evG.symm.trans hg);obtain rfl:=Option.some.inj (o6.symm.trans hty);intro i x hx;have hi:i<16:=(List.getElem?_eq_some_iff.1 hx).1;obtain ⟨fuel',d,q,hdi,he⟩:=Lib.array_elem underlying152 hd i hi;unfold ba at hx;rw [List.getElem?_map] at hx hdi;obtain ⟨r,hr,rfl⟩:=Option.map_eq_some_iff.1 hx;rw [hr] at hdi;obtain rfl:=Option.some.inj hdi;rw [oo,Nat.mul_one] at he;obtain ⟨s,hc,hz,hw⟩:=DataW.trod_string underlying9 he;rw [World.var?_cell hg hvar i,← Array.getElem?_toList];have e0:cs.toList[i]?=some (.string s):=by
  have:=congrArg (·[0]?) hc
  simpa [List.getElem?_take,List.getElem?_drop] using this
 rw [e0];simp at hz;rw [hz.1];rfl
end Go.Proofs.YtjdgiimfpkideaaGreatDoor
namespace Go.Proofs.YtjdgiimfpkideaaGreatDoor
open Go.RowKit Go.Proofs.Tryz
def ae (fs:List Op.Pk):List Value:=fs.flatMap fun f=>[.int .i64 f.code,.int .i64 f.id,.string f.data]
theorem aF (fs:List Op.Pk):(ae fs).length=fs.length*3:=by
 induction fs with
 | nil=>rfl
 | cons f fs ih=>simp [ae] at ih ⊢;omega
theorem aR (fs gs:List Op.Pk):ae (fs ++ gs)=ae fs ++ ae gs:=by simp [ae]
theorem iT:∃ i,prog.info? 85=some i∧i.zero=some (.agg #[.int .i64 0,.int .i64 0,.string ⟨#[]⟩])∧i.size=3∧i.bytes=32:=by
 have h:(prog.info? 85).map (fun i=>(i.zero,i.size,i.bytes))=some (some (.agg #[.int .i64 0,.int .i64 0,.string ⟨#[]⟩]),3,32):=by kernel_rfl
 obtain ⟨i,hi,hzz⟩:=Option.map_eq_some_iff.1 h;simp only [Prod.mk.injEq] at hzz;exact ⟨i,hi,hzz.1,hzz.2.1,hzz.2.2⟩
def HoldsP (w:World) (v:Value) (F:List Op.Pk):Prop :=
 (∃ ad cp,v=.slice ad 0 cp∧F=[])∨∃ g cp cur,v=.slice (some ⟨g,0,none⟩) F.length cp∧w.heap[g]?=some (.cells cur 85)∧F.length*3≤cur.size∧∀ j,j<F.length*3→cur[j]?=(ae F)[j]?
theorem HoldsP.own {w:World} {base:Nat} {v:Value} {F:List Op.Pk} (h:w.ownsRow base 85 3 v F.length (ae F)):HoldsP w v F:=by
 rcases h.2 with ⟨h1,h2⟩ | ⟨g,cap,cur,h1,_,h3,h4,_,h6,h7⟩
 ·exact Or.inl ⟨_,_,h1,List.eq_nil_of_length_eq_zero h2⟩
 ·refine Or.inr ⟨g,cap,cur,h1,h3,by rw [h6];omega,fun j hj=>?_⟩;rw [← h7,List.getElem?_take,if_pos hj,Array.getElem?_toList]
theorem HoldsP.below {n:Nat} {w w':World} {v:Value} {F:List Op.Pk} (h:HoldsP w v F) (hb:Below n w w') (hn:n=w.heap.size):HoldsP w' v F:=by
 subst hn;exact h.imp id fun ⟨g,cp,cur,h1,h2,h3⟩=>⟨g,cp,cur,h1,(hb.block g (ge.1 h2).1).trans h2,h3⟩
theorem HoldsP.form {w:World} {v:Value} {F:List Op.Pk} (h:HoldsP w v F):∃ ad cp,v=.slice ad F.length cp:=by
 rcases h with ⟨ad,cp,h1,h2⟩ | ⟨g,cp,cur,h1,_⟩
 ·exact ⟨ad,cp,by rw [h1,h2];rfl⟩
 ·exact ⟨_,_,h1⟩
theorem HoldsP.other {w w':World} {v:Value} {F:List Op.Pk} (h:HoldsP w v F) (hw:∀ g,v.ownBlock=some g→w'.heap[g]?=w.heap[g]?):HoldsP w' v F:=by
 rcases h with ⟨ad,cp,e,e0⟩ | ⟨g,cp,cur,e,q1,q2⟩
 ·exact Or.inl ⟨ad,cp,e,e0⟩
 ·exact Or.inr ⟨g,cp,cur,e,(hw g (by rw [e];rfl)).trans q1,q2⟩
theorem HoldsP.lt {w:World} {v:Value} {F:List Op.Pk} (h:HoldsP w v F) (hF:F≠[]) (g:Nat) (hg:v.ownBlock=some g):g<w.heap.size:=by
 rcases h with ⟨_,_,_,e⟩ | ⟨g',cp,cur,e,q1,_⟩
 ·exact absurd e hF
 ·rw [e] at hg;cases hg;exact (ge.1 q1).1
theorem jL {wr:World} {ops:Array Oper} {rest:List Oper} {o:Oper} {a:Act} {Q:Exit→Act→World→Prop} (hgd:o.guard=none) (s x:Operand)
  (ho:o.op=.call { callee:=.builtin .append,args:=#[s,x],argTypes:=#[60,60] })
  (base:Nat) (v:Value) (F:List Op.Pk) (n:Nat) (hn:F.length=n) (hs:a.eval s=v) (hown:wr.ownsRow base 85 3 v n (ae F)) (cd id:Int) (dt:ByteArray) (hx:a.eval x=.slice (some ⟨wr.heap.size,0,none⟩) 1 1) (hlen:n≤1000) (hbase:base≤wr.heap.size)
  (h:∀ v' w',w'.ownsRow base 85 3 v' (n+1) (ae (F ++ [⟨cd,id,dt⟩]))→(wr.alloc (.cells #[.int .i64 cd,.int .i64 id,.string dt] 85)).grownBy w' v.ownBlock→wpList prog ops Q rest (a.put o.dst v') w'):wpList prog ops Q (o :: rest) a (wr.alloc (.cells #[.int .i64 cd,.int .i64 id,.string dt] 85)):=by
 obtain ⟨i0,hi0,hz0,hz1,hz2⟩:=iT;refine wpList_append_own _ hgd s x 60 ho base 85 i0 _ 3 32 underlying60 hi0 hz0 hz1 hz2 rfl (by decide) v n (ae F) hs (hown.alloc _) ⟨wr.heap.size,0,none⟩ 1 1 [.int .i64 cd,.int .i64 id,.string dt] hx rfl ?_ ?_ ?_ ?_ ?_ ?_
 ·intro i u hu;rw [Addr.add_lit,Nat.zero_add,World.cell?_alloc_at _ _ _ _ rfl,← hu];simp
 ·intro u hu;simp only [List.mem_cons,List.not_mem_nil,or_false] at hu;rcases hu with rfl | rfl | rfl<;>rfl
 ·unfold maxLen;omega
 ·omega
 ·simp;omega
 ·intro v' w2 hown2 hg2 _;refine h v' w2 ?_ hg2;rw [aR];exact hown2
end Go.Proofs.YtjdgiimfpkideaaGreatDoor
namespace Go.Proofs.YtjdgiimfpkideaaGreatDoor
open Go.RowKit Go.Proofs.Tryz
def ArgO (w:World) (v:Value) (F:List Op.Opt):Prop :=
 (∃ a cap,v=.slice a F.length cap)∧∀ i (hi:i<F.length),∃ b o cap,v=.slice (some ⟨b,o,none⟩) F.length cap∧b<w.heap.size∧w.cell? ⟨b,o+i*2,none⟩=some (.int .i64 F[i].kind)∧w.cell? ⟨b,o+i*2+1,none⟩=some (.string F[i].data)∧F[i].data.size≤maxLen
theorem ArgO.below {w w':World} {v:Value} {F:List Op.Opt} (h:ArgO w v F) (hb:Below w.heap.size w w'):ArgO w' v F :=
 ⟨h.1,fun i hi=>by
  obtain ⟨b,o,cap,h1,h2,h3,h4,h5⟩:=h.2 i hi;exact ⟨b,o,cap,h1,Nat.lt_of_lt_of_le h2 hb.size,(hb.cell (p:=⟨b,o+i*2,none⟩) h2).trans h3,(hb.cell (p:=⟨b,o+i*2+1,none⟩) h2).trans h4,h5⟩⟩
end Go.Proofs.YtjdgiimfpkideaaGreatDoor
namespace Go.Proofs.YtjdgiimfpkideaaGreatDoor
open Go.RowKit Go.Proofs.Tryz
def jb (k n:Nat):List Op.Opt:=(List.range n).map fun i=>⟨((k+2*i:Nat):Int),rC (k+2*i+1)⟩
theorem gx (k n:Nat):(jb k n).length=n:=by simp [jb]
theorem nA (k n i K:Nat) (h:i<n) (hK:k+2*i=K):(aj (jb k n))[i*2]?=some (.int .i64 (K:Int))∧(aj (jb k n))[i*2+1]?=some (.string (rC (K+1))):=by
 subst hK;exact bW (jb k n) i ⟨((k+2*i:Nat):Int),rC (k+2*i+1)⟩ (by simp [jb,h])
theorem rZ (cur':Array Value) (L:List Value) (i:Nat) (A B:Value) (hi:i*2+1<cur'.size) (h1:L[i*2]?=some A) (h2:L[i*2+1]?=some B) (ha:∀ j,j<i*2→cur'[j]?=L[j]?) :
  ∀ j,j<(i+1)*2→((cur'.setIfInBounds (i*2) A).setIfInBounds (i*2+1) B)[j]?=L[j]?:=by
 intro j hj;rw [Array.getElem?_setIfInBounds];by_cases e1:i*2+1=j
 ·rw [if_pos e1,if_pos (by simpa using hi),← e1,h2]
 ·rw [if_neg e1,Array.getElem?_setIfInBounds];by_cases e2:i*2=j
  ·rw [if_pos e2,if_pos (by omega),← e2,h1]
  ·rw [if_neg e2];exact ha j (by omega)
theorem vZ (g cap n k:Nat) (cur:Array Value) (w:World) (hk:0<k) (hn:k+2*n<9000000) (hc:n*2≤cur.size) (hg:w.heap[g]?=some (.cells cur 105)) :
  Calls prog 59 #[.slice (some ⟨g,0,none⟩) n cap,.int .i64 k] w fun e w'=>e=.returned (.int .i64 ((k+2*n:Nat):Int)) ∧
   (∃ cur',w'.heap[g]?=some (.cells cur' 105)∧cur'.size=cur.size∧∀ j,j<n*2→cur'[j]?=(aj (jb k n))[j]?)∧Nr g w w':=by
 have hgl:g<w.heap.size:=(ge.1 hg).1;go_enter func59,ntmps59
 go_wp2_with fail
 go_loopw [1,5] (fun x y wr=>∃ (i:Nat),i≤n∧y=.int .i64 i∧x=.int .i64 ((k+2*i:Nat):Int)∧(∃ cur',wr.heap[g]?=some (.cells cur' 105)∧cur'.size=cur.size∧∀ j,j<i*2→cur'[j]?=(aj (jb k n))[j]?)∧Nr g w wr) (fun _ y _=>n - (intOf y).toNat)
 case atStart=>exact ⟨0,Nat.zero_le _,rfl,rfl,⟨cur,hg,rfl,fun j hj=>by omega⟩,Nr.refl _ _⟩
 case round =>
  obtain ⟨i,hi,rfl,rfl,⟨cur',hg',hs',ha'⟩,hnr⟩:=hrel;by_cases hlt:i<n
  ·have d1:(i:Int)<(n:Int):=by omega
   have hgl':g<wr.heap.size:=Nat.lt_of_lt_of_le hgl hnr.size;obtain ⟨K,hK⟩:∃ K:Nat,k+2*i=K:=⟨_,rfl⟩;rw [hK];have hMg:=nA k n i K hlt hK;have HMg:=aa hMg;have HKe:Hid ((K:Int)+1+1=((k+2*(i+1):Nat):Int)):=aa (by omega);have hK9:K+1<9000000:=by omega
   have HI:Hid (i*2+1<cur'.size):=aa (by omega);have C:=aa fun v=>k_ (K+1) v (by omega) (by omega)
   rw [show ((K+1:Nat):Int)=(K:Int)+1 from rfl] at C;clear hK hMg;obtain ⟨y0,hy0⟩:∃ y,wr.cell? ⟨g,i*2,none⟩=some y:=⟨cur'[i*2]'(by have:=uh HI;omega),by rw [cr hg',Array.getElem?_eq_getElem (by have:=uh HI;omega)]⟩;have hf0:wr.frozen? ⟨g,i*2,none⟩=false:=aX hg' _;have HG1:Hid ((wr.setCell ⟨g,i*2,none⟩ (.int .i64 (K:Int))).heap[g]?=some (.cells (cur'.setIfInBounds (i*2) (.int .i64 (K:Int))) 105)):=aa (zH _ _ (i*2) _ _ _ hg');have HN1:=aa (hnr.setCell (i*2) (.int .i64 (K:Int)));have hsz1:(wr.setCell ⟨g,i*2,none⟩ (.int .i64 (K:Int))).heap.size=wr.heap.size:=by simp [World.setCell]
   generalize rC (K+1)=M at *;have HA:=aa ha';clear ha' hnr;go_wp2_with fail
   refine (uh C _).mono ?_;rintro e w2 ⟨rfl,hb2⟩;have hg2:=(hb2.block g (by rw [hsz1];exact hgl')).trans (uh HG1);have HN2:=aa ((uh HN1).of_below hb2);obtain ⟨y1,hy1⟩:∃ y,w2.cell? ⟨g,i*2+1,none⟩=some y:=⟨(cur'.setIfInBounds (i*2) (.int .i64 (K:Int)))[i*2+1]'(by have:=uh HI;simpa using this),by rw [cr hg2,Array.getElem?_eq_getElem (by have:=uh HI;simpa using this)]⟩;have hf1:w2.frozen? ⟨g,i*2+1,none⟩=false:=aX hg2 _;have HG2:=aa hg2;clear hg2 hb2 HG1 HN1 hy0 hf0 hsz1 hg';go_wp2_with fail
   go_roundw
   case rel =>
    refine ⟨i+1,by omega,by go_num,by rw [uh HKe],⟨_,zH _ _ (i*2+1) _ _ _ (uh HG2),by simp [hs'],?_⟩,(uh HN2).setCell (i*2+1) _⟩;exact rZ cur' _ i _ _ (uh HI) (uh HMg).1 (uh HMg).2 (uh HA)
   case measure=>simp [intOf];omega
  ·have e:i=n:=by omega
   subst e;have d1:¬ ((i:Int)<(i:Int)):=by omega
   go_wp2
   go_ret
   exact ⟨rfl,⟨cur',hg',hs',ha'⟩,hnr⟩
theorem v8 (g cap n k:Nat) (cur:Array Value) (w:World) (hk:0<k) (hn:k+2*n<9000000) (hg:w.heap[g]?=some (.cells cur 105)) (ha:∀ j,j<n*2→cur[j]?=(aj (jb k n))[j]?) :
  Calls prog 60 #[.slice (some ⟨g,0,none⟩) n cap,.int .i64 k] w fun e w'=>e=.returned (.int .i64 ((k+2*n:Nat):Int))∧Below w.heap.size w w':=by
 have hgl:g<w.heap.size:=(ge.1 hg).1;go_enter func60,ntmps60
 go_wp2_with fail
 go_loopw [1,5] (fun x y wr=>∃ (i:Nat),i≤n∧y=.int .i64 i∧x=.int .i64 ((k+2*i:Nat):Int)∧Below w.heap.size w wr) (fun _ y _=>n - (intOf y).toNat)
 case atStart=>exact ⟨0,Nat.zero_le _,rfl,rfl,zC _ _⟩
 case round =>
  obtain ⟨i,hi,rfl,rfl,hb⟩:=hrel;by_cases hlt:i<n
  ·have d1:(i:Int)<(n:Int):=by omega
   have hg':=(hb.block g hgl).trans hg;obtain ⟨K,hK⟩:∃ K:Nat,k+2*i=K:=⟨_,rfl⟩;rw [hK];have hMg:=nA k n i K hlt hK;have HKe:Hid ((K:Int)+1+1=((k+2*(i+1):Nat):Int)):=aa (by omega);have hK9:K+1<9000000:=by omega
   have C:=aa fun v=>k_ (K+1) v (by omega) (by omega)
   rw [show ((K+1:Nat):Int)=(K:Int)+1 from rfl] at C;have k0:wr.cell? ⟨g,i*2,none⟩=some (.int .i64 (K:Int)):=by rw [cr hg',ha _ (by omega)];exact hMg.1
   have k1:wr.cell? ⟨g,i*2+1,none⟩=some (.string (rC (K+1))):=by rw [cr hg',ha _ (by omega)];exact hMg.2
   generalize rC (K+1)=M at *;have hbs:=hb.size;have hgr:g<wr.heap.size:=Nat.lt_of_lt_of_le hgl hbs;clear hK hMg ha hg hg';go_wp2_with fail
   go_region_held (fun q=>q.cell? ⟨g,i*2+1,none⟩=some (.string M)) (first | go_keep | (show World.cell? _ _=_;rw [hb2.cell (p:=⟨g,i*2+1,none⟩) hgr];exact k1)) (first
    | (go_at_call 79;refine (uh C _).mono ?_;rintro e w2 ⟨rfl,hb2⟩))
   all_goals
    go_wp2_with fail
    go_roundw
    case rel=>exact ⟨i+1,by omega,by go_num,by rw [uh HKe],hb.trans (((zC _ _).drew.trans hb2).mono hbs)⟩
    case measure=>simp [intOf];omega
  ·have e:i=n:=by omega
   subst e;have d1:¬ ((i:Int)<(i:Int)):=by omega
   go_wp2
   go_ret
   exact ⟨rfl,hb⟩
theorem uw (ad:Option Addr) (cp k:Nat) (w:World) :
  Calls prog 59 #[.slice ad 0 cp,.int .i64 k] w fun e w'=>e=.returned (.int .i64 k)∧w'=w:=by
 go_enter func59,ntmps59
 go_wp2_with fail
 go_loopw [1,5] (fun x y wr=>x=.int .i64 k∧y=.int .i64 0∧wr=w) (fun _ _ _=>0)
 case atStart=>exact ⟨rfl,rfl,rfl⟩
 case round =>
  obtain ⟨rfl,rfl,rfl⟩:=hrel;go_wp2
  go_ret
  exact ⟨rfl,rfl⟩
theorem uy (ad:Option Addr) (cp k:Nat) (w:World) :
  Calls prog 60 #[.slice ad 0 cp,.int .i64 k] w fun e w'=>e=.returned (.int .i64 k)∧w'=w:=by
 go_enter func60,ntmps60
 go_wp2_with fail
 go_loopw [1,5] (fun x y wr=>x=.int .i64 k∧y=.int .i64 0∧wr=w) (fun _ _ _=>0)
 case atStart=>exact ⟨rfl,rfl,rfl⟩
 case round =>
  obtain ⟨rfl,rfl,rfl⟩:=hrel;go_wp2
  go_ret
  exact ⟨rfl,rfl⟩
end Go.Proofs.YtjdgiimfpkideaaGreatDoor
namespace Go.Proofs.YtjdgiimfpkideaaGreatDoor
open Go.RowKit Go.Proofs.Tryz
theorem mC (ad:Option Addr) (cp:Nat) (w:World):Calls prog 125 #[.slice ad 0 cp] w fun e w'=>e=.returned (.bool true)∧Below w.heap.size w w':=by
 go_enter func125,ntmps125
 go_wp2_with fail
 go_loopw [3] (fun y wr=>y=.int .i64 0∧wr=w) (fun _ _=>0)
 case atStart=>exact ⟨rfl,rfl⟩
 case round =>
  obtain ⟨rfl,rfl⟩:=hrel;go_wp2
  go_ret
  exact ⟨rfl,zC _ _⟩
theorem mD (g cp:Nat) (F:List Op.Opt) (cur:Array Value) (w:World) (hm:F.length≤maxLen) (h1:w.heap[g]?=some (.cells cur 105)) (a1:∀ j,j<F.length*2→cur[j]?=(aj F)[j]?) :
  Calls prog 125 #[.slice (some ⟨g,0,none⟩) F.length cp] w fun e w'=>e=.returned (.bool (Op.right F))∧Below w.heap.size w w':=by
 unfold maxLen at hm;have hl1:g<w.heap.size:=(ge.1 h1).1;obtain ⟨n,hn⟩:∃ n,F.length=n:=⟨_,rfl⟩;by_cases h20:20<n
 ·have d0:(20:Int)<(n:Int):=by omega
  rw [iV (by omega),hn];go_enter func125,ntmps125
  go_wp2
  go_ret
  exact ⟨rfl,zC _ _⟩
 ·have d0:¬ ((20:Int)<(n:Int)):=by omega
  have HA:Hid (∀ i (hi:i<n),cur[i*2]?=some (.int .i64 (F[i]'(by omega)).kind)∧cur[i*2+1]?=some (.string (F[i]'(by omega)).data)):=by
   refine aa fun i hi=>?_
   have q:=bW F i (F[i]'(by omega)) (List.getElem?_eq_getElem (by omega));exact ⟨(a1 _ (by omega)).trans q.1,(a1 _ (by omega)).trans q.2⟩
  have HT:Hid ((∀ k (hk:k<n),Op.ok (F[k]'(by omega))=true)→Op.right F=true):=aa fun h=>iU (by omega) fun k hk=>h k (by omega)
  have HF:Hid (∀ k (hk:k<n),Op.ok (F[k]'(by omega))=false→Op.right F=false):=aa fun k hk h=>il (by omega) h
  rw [hn];clear a1 hm;generalize Op.right F=RT at *;go_enter func125,ntmps125
  go_wp2_with fail
  go_loopw [3] (fun y wr=>∃ (i:Nat),i≤n∧y=.int .i64 i∧(∀ k (hk:k<i) (hkn:k<n),Op.ok (F[k]'(by omega))=true)∧Below w.heap.size w wr) (fun y _=>n - (intOf y).toNat)
  case atStart=>exact ⟨0,Nat.zero_le _,rfl,fun k hk=>by omega,zC _ _⟩
  case round =>
   obtain ⟨i,hi,rfl,hall,hb⟩:=hrel;by_cases hlt:i<n
   ·have d1:(i:Int)<(n:Int):=by omega
    obtain ⟨q1,q2⟩:=uh HA i hlt;have e1:=(hb.block g hl1).trans h1;have hf:=uh HF i hlt;have hall2:Op.ok (F[i]'(by omega))=true→∀ k (hk:k<i+1) (hkn:k<n),Op.ok (F[k]'(by omega))=true:=by
     intro h k hk hkn;rcases Nat.lt_or_ge k i with hk2 | hk2
     ·exact hall k hk2 hkn
     ·have:k=i:=by omega
      subst this;exact h
    generalize hO:F[i]'(by omega)=o at *;have k0:wr.cell? ⟨g,i*2,none⟩=some (.int .i64 o.kind):=by rw [cr e1];exact q1
    have k1:wr.cell? ⟨g,i*2+1,none⟩=some (.string o.data):=by rw [cr e1];exact q2
    have HAL:=aa hall2;have HFF:=aa hf;have C:=aa fun v=>jM o.kind 1 v
    obtain ⟨kd,dt⟩:=o;dsimp only at k0 k1 C;clear q1 q2 e1 hall hall2 hf hO HA HT HF h1;refine nu ⟨kd,dt⟩ _ (fun a r=>?_) (fun a b r=>?_) (fun a b c r=>?_) (fun a b c r=>?_);all_goals dsimp only at *
    ·have hR:=uh HFF r;subst hR;rw [show (decide (1≤kd) && decide (kd≤255))=false by simp;omega] at C;clear HFF HAL r a;go_wp2_with (first | (go_at_call 48;refine (uh C _).mono ?_;rintro e w2 ⟨rfl,hw⟩;replace hw:=hw.symm;subst hw))
     go_ret
     exact ⟨rfl,hb⟩
    ·have hR:=uh HFF r;subst hR;rw [show (decide (1≤kd) && decide (kd≤255))=false by simp;omega] at C;clear HFF HAL r a b;go_wp2_with (first | (go_at_call 48;refine (uh C _).mono ?_;rintro e w2 ⟨rfl,hw⟩;replace hw:=hw.symm;subst hw))
     go_ret
     exact ⟨rfl,hb⟩
    ·have f2:decide ((20:Int)<(dt.size:Int))=true:=decide_eq_true (by omega);have hR:=uh HFF r;subst hR;rw [show (decide (1≤kd) && decide (kd≤255))=true by simp;omega] at C;clear HFF HAL r a b c;go_wp2_with (first | (go_at_call 48;refine (uh C _).mono ?_;rintro e w2 ⟨rfl,hw⟩;replace hw:=hw.symm;subst hw))
     go_ret
     exact ⟨rfl,hb⟩
    ·have f2:decide ((20:Int)<(dt.size:Int))=false:=decide_eq_false (by omega);have hR:=uh HAL r;have HR:=aa hR;rw [show (decide (1≤kd) && decide (kd≤255))=true by simp;omega] at C;clear HFF HAL r a b c hR;go_wp2_with (first | (go_at_call 48;refine (uh C _).mono ?_;rintro e w2 ⟨rfl,hw⟩;replace hw:=hw.symm;subst hw))
     go_roundw
     case rel=>exact ⟨i+1,by omega,by go_num,uh HR,hb⟩
     case measure=>simp [intOf];omega
   ·have e:i=n:=by omega
    subst e;have d1:¬ ((i:Int)<(i:Int)):=by omega
    have hR:=uh HT fun k hk=>hall k hk hk
    subst hR;go_wp2
    go_ret
    exact ⟨rfl,hb⟩
theorem cz (v:Value) (F:List Op.Opt) (w:World) (hm:F.length≤maxLen) (h:HoldsO w v F) :
  Calls prog 125 #[v] w fun e w'=>e=.returned (.bool (Op.right F))∧Below w.heap.size w w':=by
 rcases h with ⟨ad,cp,rfl,rfl⟩ | ⟨g,cp,cur,rfl,h2,_,h4⟩
 ·exact mC ad cp w
 ·exact mD g cp F cur w hm h2 h4
end Go.Proofs.YtjdgiimfpkideaaGreatDoor
namespace Go.Proofs.YtjdgiimfpkideaaGreatDoor
open Go.RowKit Go.Proofs.Tryz
theorem pI (t:ByteArray):Lib.strCells t=dg t.data.toList:=by
 simp [Lib.strCells,dg,mp]
theorem jc {w:World} {ops:Array Oper} {rest:List Oper} {o:Oper} {a:Act} {Q:Exit→Act→World→Prop} (hgd:o.guard=none) (s x:Operand)
  (ho:o.op=.call { callee:=.builtin .append,args:=#[s,x],argTypes:=#[22,9] })
  (base:Nat) (v:Value) (L:List UInt8) (hs:a.eval s=v) (hown:w.ownsRow base 5 1 v L.length (dg L)) (t:ByteArray) (hx:a.eval x=.string t) (hlen:L.length+t.size≤1000000) (hbase:base≤w.heap.size)
  (h:∀ v' w',w'.ownsRow base 5 1 v' (L.length+t.size) (dg (L ++ t.data.toList))→Below base w w'→wpList prog ops Q rest (a.put o.dst v') w'):wpList prog ops Q (o :: rest) a w:=by
 obtain ⟨ui,hi1,hi2,hi3,hi4⟩:=mn;refine Lib.wpList_append_own_string w hgd s x 22 9 ho base 5 ui underlying22 underlying9 hi1 hi2 hi3 hi4 v L.length (dg L) hs hown t hx (by unfold maxLen;omega) (by omega) hbase ?_;intro v' w' h1 h2 _;refine h v' w' ?_ ((zC _ _).grown h2 hbase (fun q hq=>(World.ownsRow.lt hown q hq).1));rw [fo,← pI];exact h1
theorem je (l m:List UInt8):co (l ++ m)=co l ++ co m:=by
 apply ByteArray.ext
 simp [co]
end Go.Proofs.YtjdgiimfpkideaaGreatDoor
namespace Go.Proofs.YtjdgiimfpkideaaGreatDoor
open Go.RowKit Go.Proofs.Tryz
theorem nC {k:Nat} (hk:k<65536):(k:Int) / 256=((UInt8.ofNat (k / 256)).toNat:Int):=by
 have:(UInt8.ofNat (k / 256)).toNat=k / 256:=by simp;omega
 omega
theorem nD (k:Nat):(k:Int) % 256=((UInt8.ofNat k).toNat:Int):=by
 have:(UInt8.ofNat k).toNat=k % 256:=by simp
 omega
theorem uC (k:Nat) (hk:k<65536) (w:World) :
  Calls prog 253 #[.int .i64 k] w fun e w'=>e=.returned (.agg #[.int .u8 (UInt8.ofNat (k / 256)).toNat,  .int .u8 (UInt8.ofNat k).toNat])∧w'=w.alloc (.cells #[.int .u8 (UInt8.ofNat (k / 256)).toNat,.int .u8 (UInt8.ofNat k).toNat] 306):=by
 rw [← nC hk,← nD k];go_enter func253,ntmps253
 go_wp2
 refine bodyPost_ret (v:=.agg #[.int .u8 ((k:Int) / 256),.int .u8 ((k:Int) % 256)]) (by simp [results,results253,go_sem]) rfl ⟨rfl,rfl⟩
end Go.Proofs.YtjdgiimfpkideaaGreatDoor
namespace Go.Proofs.YtjdgiimfpkideaaGreatDoor
open Go.RowKit Go.Proofs.Tryz
theorem iA:(prog.info? 5).map (fun i=>(i.zero,i.size,i.bytes))=some (some (.int .u8 0),1,1):=by kernel_rfl
theorem v_:madeCells #[Value.int .u8 0] 0=#[]:=by kernel_rfl
theorem wd:madeCells #[Value.int .u8 0] 1=#[.int .u8 0]:=by kernel_rfl
theorem we:madeCells #[Value.int .u8 0] 2=#[.int .u8 0,.int .u8 0]:=by kernel_rfl
theorem wg:madeCells #[Value.int .u8 0] 4=#[.int .u8 0,.int .u8 0,.int .u8 0,.int .u8 0]:=by kernel_rfl
theorem wh (w:World):(Instr.makeSlice 22 (.int .i64 0) (.int .i64 0)).run prog w=.ok (.slice (some ⟨w.heap.size,0,none⟩) 0 0) (w.alloc (.cells #[] 5)) :=
 v_ ▸ run_make_row' (P:=prog) 22 5 (.int .u8 0) 1 underlying22 iA rfl .i64 .i64 0 (by decide) (by decide) w
theorem wj (w:World):(Instr.makeSlice 22 (.int .i64 1) (.int .i64 1)).run prog w=.ok (.slice (some ⟨w.heap.size,0,none⟩) 1 1) (w.alloc (.cells #[.int .u8 0] 5)) :=
 wd ▸ run_make_row' (P:=prog) 22 5 (.int .u8 0) 1 underlying22 iA rfl .i64 .i64 1 (by decide) (by decide) w
theorem tw (w:World):(Instr.makeSlice 22 (.int .i64 2) (.int .i64 2)).run prog w=.ok (.slice (some ⟨w.heap.size,0,none⟩) 2 2) (w.alloc (.cells #[.int .u8 0,.int .u8 0] 5)) :=
 we ▸ run_make_row' (P:=prog) 22 5 (.int .u8 0) 1 underlying22 iA rfl .i64 .i64 2 (by decide) (by decide) w
theorem tz (w:World):(Instr.makeSlice 22 (.int .i64 4) (.int .i64 4)).run prog w=.ok (.slice (some ⟨w.heap.size,0,none⟩) 4 4) (w.alloc (.cells #[.int .u8 0,.int .u8 0,.int .u8 0,.int .u8 0] 5)) :=
 wg ▸ run_make_row' (P:=prog) 22 5 (.int .u8 0) 1 underlying22 iA rfl .i64 .i64 4 (by decide) (by decide) w
theorem wl (w:World):(convert 22 9 (.slice (some ⟨w.heap.size,0,none⟩) 0 0)).run prog (w.alloc (.cells #[] 5))=.ok (.string (strOfNums [])) (w.alloc (.cells #[] 5)) :=
 run_convert_bytes_arg (P:=prog) _ 22 5 underlying22 underlying5 w.heap.size 0 0 0 [] rfl (fun i hi=>by cases hi) 9 underlying9
theorem wm (w:World) (a:Int):(convert 22 9 (.slice (some ⟨w.heap.size,0,none⟩) 1 1)).run prog (w.alloc (.cells #[.int .u8 a] 5))=.ok (.string (strOfNums [a])) (w.alloc (.cells #[.int .u8 a] 5)) :=
 run_convert_bytes_arg (P:=prog) _ 22 5 underlying22 underlying5 w.heap.size 0 1 1 [a] rfl (fun i hi=>by
  rw [World.cell?_alloc_at _ _ _ _ (by simp)];match i,hi with
  | 0,_=>rfl) 9 underlying9
theorem tA (w:World) (a b:Int):(convert 22 9 (.slice (some ⟨w.heap.size,0,none⟩) 2 2)).run prog (w.alloc (.cells #[.int .u8 a,.int .u8 b] 5))=.ok (.string (strOfNums [a,b])) (w.alloc (.cells #[.int .u8 a,.int .u8 b] 5)) :=
 run_convert_bytes_arg (P:=prog) _ 22 5 underlying22 underlying5 w.heap.size 0 2 2 [a,b] rfl (fun i hi=>by
  rw [World.cell?_alloc_at _ _ _ _ (by simp)];match i,hi with
  | 0,_=>rfl
  | 1,_=>rfl) 9 underlying9
theorem tC (w:World) (a b c d:Int):(convert 22 9 (.slice (some ⟨w.heap.size,0,none⟩) 4 4)).run prog (w.alloc (.cells #[.int .u8 a,.int .u8 b,.int .u8 c,.int .u8 d] 5))=.ok (.string (strOfNums [a,b,c,d])) (w.alloc (.cells #[.int .u8 a,.int .u8 b,.int .u8 c,.int .u8 d] 5)) :=
 run_convert_bytes_arg (P:=prog) _ 22 5 underlying22 underlying5 w.heap.size 0 4 4 [a,b,c,d] rfl (fun i hi=>by
  rw [World.cell?_alloc_at _ _ _ _ (by simp)];match i,hi with
  | 0,_=>rfl
  | 1,_=>rfl
  | 2,_=>rfl
  | 3,_=>rfl) 9 underlying9
def fu (n:Nat):ByteArray:=strOfNums [(n:Int) % 256]
def ji (n:Nat):ByteArray:=strOfNums [(n:Int) / 256 % 256,(n:Int) % 256]
def cK (n:Nat):ByteArray:=strOfNums [(n:Int) / 16777216 % 256,(n:Int) / 65536 % 256,(n:Int) / 256 % 256,(n:Int) % 256]
theorem se (n:Nat) (w:World):Calls prog 218 #[.int .i64 n,.int .i64 0] w fun e w'=>e=.returned (.string ⟨#[]⟩)∧Below w.heap.size w w':=by
 have hm:=wh;have hc:=wl w;go_enter func218,ntmps218
 go_wp2_with fail
 go_rounds 1
 go_ret
 exact ⟨rfl,(zC _ _).alloc (zD _) _⟩
theorem wn (n:Nat) (w:World):Calls prog 218 #[.int .i64 n,.int .i64 1] w fun e w'=>e=.returned (.string (fu n))∧Below w.heap.size w w':=by
 have hm:=wj;have hc:=wm w;unfold fu;go_enter func218,ntmps218
 go_wp2_with fail
 go_rounds 2
 go_ret
 exact ⟨rfl,(zC _ _).alloc (zD _) _⟩
theorem wt (n:Nat) (w:World):Calls prog 218 #[.int .i64 n,.int .i64 2] w fun e w'=>e=.returned (.string (ji n))∧Below w.heap.size w w':=by
 have hm:=tw;have hc:=tA w;unfold ji;go_enter func218,ntmps218
 go_wp2_with fail
 go_rounds 3
 go_ret
 exact ⟨rfl,(zC _ _).alloc (zD _) _⟩
theorem pL (n:Nat) (w:World):Calls prog 218 #[.int .i64 n,.int .i64 4] w fun e w'=>e=.returned (.string (cK n))∧Below w.heap.size w w':=by
 have hm:=tz;have hc:=tC w;unfold cK;go_enter func218,ntmps218
 go_wp2_with fail
 go_rounds 5
 go_ret
 exact ⟨rfl,(zC _ _).alloc (zD _) _⟩
theorem tD (n:Nat) (w:World):Calls prog 106 #[.int .i64 n,.int .i64 2] w fun e w'=>e=.returned (.string (ji n))∧Below w.heap.size w w':=by
 have hm:=tw;have hc:=tA w;unfold ji;go_enter func106,ntmps106
 go_wp2_with fail
 go_rounds 3
 go_ret
 exact ⟨rfl,(zC _ _).alloc (zD _) _⟩
theorem jR (n:Nat) (w:World):Calls prog 106 #[.int .i64 n,.int .i64 4] w fun e w'=>e=.returned (.string (cK n))∧Below w.heap.size w w':=by
 have hm:=tz;have hc:=tC w;rw [show cK n=strOfNums [(n:Int) / 256 / 256 / 256 % 256,(n:Int) / 256 / 256 % 256,(n:Int) / 256 % 256,(n:Int) % 256] by
  unfold cK;rw [show (n:Int) / 16777216=(n:Int) / 256 / 256 / 256 by omega,show (n:Int) / 65536=(n:Int) / 256 / 256 by omega]]
 go_enter func106,ntmps106
 go_wp2_with fail
 go_rounds 5
 go_ret
 exact ⟨rfl,(zC _ _).alloc (zD _) _⟩
end Go.Proofs.YtjdgiimfpkideaaGreatDoor
namespace Go.Proofs.YtjdgiimfpkideaaGreatDoor
open Go.RowKit Go.Proofs.Tryz
theorem yp (m a g:Int) (p c d:Bool) (w:World):Calls prog 170 #[cN m a g p c d] w fun e w'=>e=.returned (.tuple #[.int .i64 m,.bool (m != 300)])∧Below w.heap.size w w':=by
 go_enter func170,ntmps170
 go_wp2_with fail
 go_quiet (fail)
 go_wp2
 go_ret2
 exact ⟨rfl,aH ((zC _ _).alloc (zD _) _) _⟩
theorem yq (m a g:Int) (p c d:Bool) (w:World):Calls prog 176 #[cN m a g p c d] w fun e w'=>e=.returned (.tuple #[.int .i64 a,.bool (a != 4294967295)])∧Below w.heap.size w w':=by
 go_enter func176,ntmps176
 go_wp2_with fail
 go_quiet (fail)
 go_wp2
 go_ret2
 exact ⟨rfl,aH ((zC _ _).alloc (zD _) _) _⟩
theorem yr (m a g:Int) (p c d:Bool) (w:World):Calls prog 181 #[cN m a g p c d] w fun e w'=>e=.returned (.tuple #[.int .i64 g,.bool (g != 0)])∧Below w.heap.size w w':=by
 go_enter func181,ntmps181
 go_wp2_with fail
 go_quiet (fail)
 go_wp2
 go_ret2
 exact ⟨rfl,aH ((zC _ _).alloc (zD _) _) _⟩
theorem yt (m a g:Int) (p c d:Bool) (w:World):Calls prog 187 #[cN m a g p c d] w fun e w'=>e=.returned (.tuple #[.int .i64 0,.bool p])∧Below w.heap.size w w':=by
 go_enter func187,ntmps187
 go_wp2_with fail
 go_quiet (fail)
 go_wp2
 go_ret2
 exact ⟨rfl,aH ((zC _ _).alloc (zD _) _) _⟩
theorem yu (m a g:Int) (p c d:Bool) (w:World):Calls prog 192 #[cN m a g p c d] w fun e w'=>e=.returned (.tuple #[.int .i64 0,.bool c])∧Below w.heap.size w w':=by
 go_enter func192,ntmps192
 go_wp2_with fail
 go_quiet (fail)
 go_wp2
 go_ret2
 exact ⟨rfl,aH ((zC _ _).alloc (zD _) _) _⟩
theorem yv (m a g:Int) (p c d:Bool) (w:World):Calls prog 197 #[cN m a g p c d] w fun e w'=>e=.returned (.tuple #[.int .i64 4,.bool d])∧Below w.heap.size w w':=by
 go_enter func197,ntmps197
 go_wp2_with fail
 go_quiet (fail)
 go_wp2
 go_ret2
 exact ⟨rfl,aH ((zC _ _).alloc (zD _) _) _⟩
def c_ (b:Bool) (k:Int) (t:ByteArray):List Op.Opt:=if b then [⟨k,t⟩] else []
theorem bD (k:Int) (t:ByteArray):c_ true k t=[⟨k,t⟩]:=rfl
theorem dG (k:Int) (t:ByteArray):c_ false k t=[]:=rfl
def eZ (m a g:Nat) (p c d:Bool):List (List Op.Opt) :=
 [c_ ((m:Int) != 300) 1 (ji m),c_ ((a:Int) != 4294967295) 2 (cK a),c_ ((g:Int) != 0) 5 (cK g),c_ p 7 ⟨#[]⟩,c_ c 8 ⟨#[]⟩,c_ d 9 (fu 4)]
def bp (m a g:Nat) (p c d:Bool) (i:Nat):List Op.Opt:=((eZ m a g p c d).take i).flatten
theorem oC (b:Bool) (k:Int) (t:ByteArray):(c_ b k t).length≤1:=by unfold c_;split<;>simp
theorem dp (m a g:Nat) (p c d:Bool) (i:Nat):(bp m a g p c d i).length≤6:=by
 have h:∀ (n:Nat) (l:List (List Op.Opt)),l.length=n→(∀ x ∈ l,x.length≤1)→l.flatten.length≤n:=by
  intro n l hl hx;induction l generalizing n with
  | nil=>simp
  | cons x l ih =>
   have h1:=hx x (by simp);have h2:=ih _ rfl fun y hy=>hx y (by simp [hy])
   rw [List.flatten_cons,List.length_append];rw [List.length_cons] at hl;omega
 have hA:∀ x ∈ eZ m a g p c d,x.length≤1:=by
  intro x hx;simp only [eZ,List.mem_cons,List.not_mem_nil,or_false] at hx;rcases hx with rfl | rfl | rfl | rfl | rfl | rfl<;>exact oC _ _ _
 have:=h _ ((eZ m a g p c d).take i) rfl fun x hx=>hA x (List.mem_of_mem_take hx)
 have h6:((eZ m a g p c d).take i).length≤6:=by rw [List.length_take];simp [eZ];omega
 unfold bp;omega
abbrev uD:Value:=.agg #[.int .i64 1,.int .i64 2,.int .i64 5,.int .i64 7,.int .i64 8,.int .i64 9]
structure AskR (m a g:Nat) (p c d:Bool) (i:Nat) (k s:Int) (f f2 f3 f4 f5 n j:Nat) (b:Bool) (t:ByteArray):Prop where
 ix:∀ W,(Instr.index 304 uD (.int .i64 i)).run prog W=.ok (.int .i64 k) W
 fd:Instr.findNow (.int .i64) (.int .i64 k) cI.toList 0=some (some (j,aZ s f f2 f3 f4 f5))
 cf:∀ args W,(callFunc f args).run prog W=.ok (.enter f args) W
 ask:∀ v,Calls prog f #[cN m a g p c d] v fun e w'=>e=.returned (.tuple #[.int .i64 n,.bool b])∧Below v.heap.size v w'
 num:∀ v,Calls prog 218 #[.int .i64 n,.int .i64 s] v fun e w'=>e=.returned (.string t)∧Below v.heap.size v w'
 lst:bp m a g p c d (i+1)=bp m a g p c d i ++ c_ b k t
theorem sf (m a g:Nat) (p c d:Bool) (i:Nat) (hi:i<6):∃ k s f f2 f3 f4 f5 n j b t,AskR m a g p c d i k s f f2 f3 f4 f5 n j b t:=by
 match i,hi with
 | 0,_=>exact ⟨_,_,_,_,_,_,_,_,_,_,_,⟨fun W=>rfl,rfl,bM (by kernel_rfl),fun v=>yp m a g p c d v,fun v=>wt m v,by simp [bp,eZ]⟩⟩
 | 1,_=>exact ⟨_,_,_,_,_,_,_,_,_,_,_,⟨fun W=>rfl,rfl,bM (by kernel_rfl),fun v=>yq m a g p c d v,fun v=>pL a v,by simp [bp,eZ]⟩⟩
 | 2,_=>exact ⟨_,_,_,_,_,_,_,_,_,_,_,⟨fun W=>rfl,rfl,bM (by kernel_rfl),fun v=>yr m a g p c d v,fun v=>pL g v,by simp [bp,eZ]⟩⟩
 | 3,_=>exact ⟨_,_,_,_,_,_,_,0,_,_,_,⟨fun W=>rfl,rfl,bM (by kernel_rfl),fun v=>yt m a g p c d v,fun v=>se 0 v,by simp [bp,eZ]⟩⟩
 | 4,_=>exact ⟨_,_,_,_,_,_,_,0,_,_,_,⟨fun W=>rfl,rfl,bM (by kernel_rfl),fun v=>yu m a g p c d v,fun v=>se 0 v,by simp [bp,eZ]⟩⟩
 | 5,_=>exact ⟨_,_,_,_,_,_,_,4,_,_,_,⟨fun W=>rfl,rfl,bM (by kernel_rfl),fun v=>yv m a g p c d v,fun v=>wn 4 v,by simp [bp,eZ]⟩⟩
end Go.Proofs.YtjdgiimfpkideaaGreatDoor
namespace Go.Proofs.YtjdgiimfpkideaaGreatDoor
open Go.RowKit Go.Proofs.Tryz
theorem cD {wr:World} {ops:Array Oper} {rest:List Oper} {o:Oper} {a:Act} {Q:Exit→Act→World→Prop} (hgd:o.guard=none) (s x:Operand)
  (ho:o.op=.call { callee:=.builtin .append,args:=#[s,x],argTypes:=#[28,28] })
  (base:Nat) (v:Value) (F:List Op.Opt) (n:Nat) (hn:F.length=n) (hs:a.eval s=v) (hown:wr.ownsRow base 105 2 v n (aj F)) (kd:Int) (dt:ByteArray) (hx:a.eval x=.slice (some ⟨wr.heap.size,0,none⟩) 1 1) (hlen:n≤1000) (hbase:base≤wr.heap.size)
  (h:∀ v' w',w'.ownsRow base 105 2 v' (n+1) (aj (F ++ [⟨kd,dt⟩]))→(wr.alloc (.cells #[.int .i64 kd,.string dt] 105)).grownBy w' v.ownBlock→wpList prog ops Q rest (a.put o.dst v') w'):wpList prog ops Q (o :: rest) a (wr.alloc (.cells #[.int .i64 kd,.string dt] 105)):=by
 obtain ⟨i0,hi0,hz0,hz1,hz2⟩:=kW;refine wpList_append_own _ hgd s x 28 ho base 105 i0 _ 2 24 underlying28 hi0 hz0 hz1 hz2 rfl (by decide) v n (aj F) hs (hown.alloc _) ⟨wr.heap.size,0,none⟩ 1 1 [.int .i64 kd,.string dt] hx rfl ?_ ?_ ?_ ?_ ?_ ?_
 ·intro i u hu;rw [Addr.add_lit,Nat.zero_add,World.cell?_alloc_at _ _ _ _ rfl,← hu];simp
 ·intro u hu;simp only [List.mem_cons,List.not_mem_nil,or_false] at hu;rcases hu with rfl | rfl<;>rfl
 ·unfold maxLen;omega
 ·omega
 ·simp;omega
 ·intro v' w2 hown2 hg2 _;refine h v' w2 ?_ hg2;rw [bV];exact hown2
end Go.Proofs.YtjdgiimfpkideaaGreatDoor
namespace Go.Proofs.YtjdgiimfpkideaaGreatDoor
open Go.RowKit Go.Proofs.Tryz
theorem dy {w:World} {base base':Nat} {e:TypeId} {size:Nat} {v:Value} {n:Nat} {xs:List Value} (h:w.ownsRow base e size v n xs) (hb:base'≤base):w.ownsRow base' e size v n xs :=
 ⟨h.1,h.2.imp id fun ⟨g,cap,cur,h1,h2,h3⟩=>⟨g,cap,cur,h1,zE hb h2,h3⟩⟩
theorem mM (m a g:Nat) (p c d:Bool) (w:World) (h:aK m a g=true) :
  Calls prog 244 #[cN m a g p c d] w fun e w'=>∃ ad cp,e=.returned (.slice ad (bp m a g p c d 6).length cp)∧w'.ownsRow w.heap.size 105 2 (.slice ad (bp m a g p c d 6).length cp) (bp m a g p c d 6).length (aj (bp m a g p c d 6))∧Below w.heap.size w w':=by
 have C:=aa fun v=>dm m a g p c d v
 rw [h] at C;clear h;go_enter func244,ntmps244
 go_wp2_with fail
 refine (uh C _).mono ?_;rintro e w1 ⟨rfl,hb1⟩;have hr1:=(hb1.block w.heap.size (by simp)).trans (heap_alloc_last w (.cells #[.int .i64 m,.int .i64 a,.int .i64 g,.bool p,.bool c,.bool d] 24));have hB1:=((zC w.heap.size w).alloc (zD _) (.cells #[.int .i64 m,.int .i64 a,.int .i64 g,.bool p,.bool c,.bool d] 24)).trans (hb1.mono (by simp));clear hb1 C;go_wp2_with fail
 refine (dF _).mono ?_;rintro e w2 ⟨rfl,hm2,hb2⟩;have hr2:=(hb2.block w.heap.size (ge.1 hr1).1).trans hr1;have hB2:=hB1.trans (hb2.mono hB1.size);have hc1:w.heap.size<w2.heap.size:=(ge.1 hr2).1;have hc2:w1.heap.size<w2.heap.size:=(ge.1 hm2).1;generalize w1.heap.size=M at *;have HR2:=aa hr2;have HM2:=aa hm2;have HB2:=aa hB2;clear hr1 hr2 hm2 hB1 hB2 hb2;go_wp2_with fail
 go_loopw [4,15] (fun x y wr=>∃ (i:Nat) (ad:Option Addr) (cp:Nat),i≤6∧y=.int .i64 i∧x=.slice ad (bp m a g p c d i).length cp∧wr.ownsRow w2.heap.size 105 2 (.slice ad (bp m a g p c d i).length cp) (bp m a g p c d i).length (aj (bp m a g p c d i))∧Below w2.heap.size w2 wr) (fun _ y _=>6 - (intOf y).toNat)
 case atStart=>exact ⟨0,none,0,by omega,rfl,rfl,⟨rfl,Or.inl ⟨rfl,rfl⟩⟩,zC _ _⟩
 case round =>
  obtain ⟨i,ad,cp,hi,rfl,rfl,ho,hb⟩:=hrel;by_cases hlt:i<6
  ·have d1:(i:Int)<6:=by omega
   obtain ⟨k,s,f,f2,f3,f4,f5,n,j,b,t,hR⟩:=sf m a g p c d i hlt;have hix:=hR.ix;have hcf:=hR.cf;have hlk:=rV wr M cI 6 j k _ ((hb.block M hc2).trans (uh HM2)) hR.fd;have hcr:=(hb.block w.heap.size hc1).trans (uh HR2);obtain ⟨c0,c1,c2,c3,c4,c5⟩:=aJ hcr;have hbs:=hb.size;have HR:=aa hR;have HO:=aa ho;have HB:=aa hb;have hln:=dp m a g p c d i;clear hR ho hb c0 c1 c2 c3 c4 c5;go_upto_region 9 with fail
   refine ab (fun q=>q.heap[wr.heap.size]?=some (.cells #[.int .i64 s,cY f,cY f2,cY f3,cY f4,cY f5] 191)∧q.heap[w.heap.size]?=some (.cells #[.int .i64 m,.int .i64 a,.int .i64 g,.bool p,.bool c,.bool d] 24)∧Below wr.heap.size wr q)
    ⟨zF wr _,(zG _ _ _ (by omega)).trans hcr,(zC _ _).alloc (zD _) _⟩ ?_
   rintro q ⟨hrq,hcq,hbq⟩;obtain ⟨c0,c1,c2,c3,c4,c5⟩:=aJ hcq;obtain ⟨r0,r1,r2,r3,r4,r5⟩:=aJ hrq;have HQ:=aa (zA hrq hbq);clear hcr hcq hrq hbq;go_wp2_with fail
   refine ((uh HR).ask _).mono ?_;rintro e w3 ⟨rfl,hb3⟩;have hR3:=(hb3.block wr.heap.size (ge.1 (uh HQ).1).1).trans (uh HQ).1;have hbw:Below wr.heap.size wr w3:=(uh HQ).2.trans (hb3.mono (uh HQ).2.size);have HO3:=aa (aY (uh HO) fun q _ hq=>hbw.block q hq);have HB3:=aa ((uh HB).trans (hbw.mono hbs));clear hb3 HO HB r0 r1 r2 r3 r4 r5 HQ;obtain ⟨r0,r1,r2,r3,r4,r5⟩:=aJ hR3;have hbs3:=zE hbs hbw.size;clear hR3 hbw r1 r2 r3 r4 r5 c0 c1 c2 c3 c4 c5 hix hlk hcf;have hls:=(uh HR).lst;have HLS:=aa hls;clear hls;cases b
   ·go_wp2_with fail
    go_roundw
    case rel =>
     refine ⟨i+1,ad,cp,by omega,by go_num,?_,?_,uh HB3⟩
     ·rw [uh HLS,dG,List.append_nil]
     ·rw [uh HLS,dG,List.append_nil];exact uh HO3
    case measure=>simp [intOf];omega
   ·go_wp2_with fail
    refine ((uh HR).num _).mono ?_;rintro e w4 ⟨rfl,hb4⟩;have HO4:=aa (aY (uh HO3) fun q _ hq=>hb4.block q hq);have HB4:=aa ((uh HB3).trans (hb4.mono hbs3));have hbs4:=zE hbs3 hb4.size;clear hb4 HO3 HB3 r0;go_wp2_with (first | (at_builtin;refine cD rfl _ _ rfl w2.heap.size (.slice ad (bp m a g p c d i).length cp) (bp m a g p c d i) (bp m a g p c d i).length rfl rfl (uh HO4) k t rfl (by omega) hbs4 ?_;rintro v6 w6 ho6 hg6;obtain ⟨a6,c6,rfl⟩:=af ho6))
    have hb6:Below w2.heap.size w2 w6:=((uh HB4).alloc hbs4 _).grown hg6 (by simp;omega) (fun q hq=>(World.ownsRow.lt (uh HO4) q hq).1);go_roundw
    case rel =>
     have hl1:(bp m a g p c d i).length+1=(bp m a g p c d (i+1)).length:=by rw [uh HLS,bD,List.length_append];rfl
     refine ⟨i+1,a6,c6,by omega,by go_num,?_,?_,hb6⟩
     ·rw [← hl1]
     ·rw [← hl1,uh HLS,bD];exact ho6
    case measure=>simp [intOf];omega
  ·have e:i=6:=by omega
   subst e;have d1:¬ (((6:Nat):Int)<6):=by omega
   have hB2:=uh HB2;have ho6:=dy ho hB2.size;have hb6:=hB2.trans (hb.mono hB2.size);clear HR2 HM2 HB2;go_wp2
   go_ret
   exact ⟨ad,cp,rfl,ho6,hb6⟩
end Go.Proofs.YtjdgiimfpkideaaGreatDoor
namespace Go.Proofs.YtjdgiimfpkideaaGreatDoor
open Go.RowKit Go.Proofs.Tryz
def mpk (k n:Nat):List Op.Pk:=(List.range n).map fun i=>⟨((k+3*i:Nat):Int),((k+3*i+1:Nat):Int),rC (k+3*i+2)⟩
end Go.Proofs.YtjdgiimfpkideaaGreatDoor
namespace Go.Proofs.YtjdgiimfpkideaaGreatDoor
open Go.RowKit Go.Proofs.Tryz
structure Off (N R:Nat) (w w':World):Prop where
 os:w'.os=w.os
 tape:w'.tape=w.tape
 output:w'.output=w.output
 size:w.heap.size≤w'.heap.size
 block:∀ k,k<N→k≠R→w'.heap[k]?=w.heap[k]?
theorem Off.refl (N R:Nat) (w:World):Off N R w w:=⟨rfl,rfl,rfl,zD _,fun _ _ _=>rfl⟩
theorem Off.trans {N R:Nat} {a b c:World} (h:Off N R a b) (k:Off N R b c):Off N R a c :=
 ⟨k.os.trans h.os,k.tape.trans h.tape,k.output.trans h.output,zE h.size k.size,fun i hi hn=>(k.block i hi hn).trans (h.block i hi hn)⟩
theorem Nr.off {N R:Nat} {w w':World} (h:Nr R w w') (hN:N≤w.heap.size):Off N R w w':=⟨h.os,h.tape,h.output,h.size,fun k hk hn=>h.block k (by omega) hn⟩
theorem Off.of_below {N R:Nat} {w w':World} (h:Below N w w'):Off N R w w':=⟨h.os,h.tape,h.output,h.size,fun k hk _=>h.block k hk⟩
theorem Off.below {N R n:Nat} {w w':World} (h:Off N R w w') (h1:n≤N) (h2:n≤R):Below n w w':=⟨h.os,h.tape,h.output,h.size,fun k hk=>h.block k (by omega) (by omega)⟩
theorem Off.setR {N R:Nat} {a w:World} (h:Off N R a w) (o:Nat) (v:Value):Off N R a (w.setCell ⟨R,o,none⟩ v):=by
 have hb:=(zC 0 w).setCell (p:=⟨R,o,none⟩) (Nat.zero_le _) v;exact ⟨hb.os.trans h.os,hb.tape.trans h.tape,hb.output.trans h.output,zE h.size hb.size,fun k hk hn=>(Below.heap_setCell w ⟨R,o,none⟩ v k hn).trans (h.block k hk hn)⟩
theorem ic {w w':World} {R base:Nat} {e:TypeId} {size:Nat} {v:Value} {n:Nat} {xs:List Value} (h:w.ownsRow base e size v n xs) (hn:Nr R w w') (hb:R<base):w'.ownsRow base e size v n xs :=
 aY h fun g h1 h2=>hn.block g h2 (by omega)
theorem sM:∃ i,prog.info? 2=some i∧i.zero=some (.int .i64 0)∧i.size=1∧i.bytes=8:=by
 have h:(prog.info? 2).map (fun i=>(i.zero,i.size,i.bytes))=some (some (.int .i64 0),1,8):=by kernel_rfl
 obtain ⟨i,hi,hzz⟩:=Option.map_eq_some_iff.1 h;simp only [Prod.mk.injEq] at hzz;exact ⟨i,hi,hzz.1,hzz.2.1,hzz.2.2⟩
theorem jt {wr:World} {ops:Array Oper} {rest:List Oper} {o:Oper} {a:Act} {Q:Exit→Act→World→Prop} (hgd:o.guard=none) (s x:Operand)
  (ho:o.op=.call { callee:=.builtin .append,args:=#[s,x],argTypes:=#[25,25] })
  (base:Nat) (v:Value) (n:Nat) (L:List Value) (hs:a.eval s=v) (hown:wr.ownsRow base 2 1 v n L) (c:Int) (hx:a.eval x=.slice (some ⟨wr.heap.size,0,none⟩) 1 1) (hlen:n≤1000) (hbase:base≤wr.heap.size)
  (h:∀ v' w',w'.ownsRow base 2 1 v' (n+1) (L ++ [.int .i64 c])→Below base wr w'→wpList prog ops Q rest (a.put o.dst v') w'):wpList prog ops Q (o :: rest) a (wr.alloc (.cells #[.int .i64 c] 2)):=by
 obtain ⟨ui,hi1,hi2,hi3,hi4⟩:=sM;refine wpList_append_own _ hgd s x 25 ho base 2 ui (.int .i64 0) 1 8 underlying25 hi1 hi2 hi3 hi4 rfl (by decide) v n L hs (hown.alloc _) ⟨wr.heap.size,0,none⟩ 1 1 [.int .i64 c] hx rfl ?_ ?_ ?_ ?_ ?_ ?_
 ·intro i u hu;rw [Addr.add_lit,Nat.zero_add,World.cell?_alloc_at _ _ _ _ rfl,← hu];simp
 ·intro u hu;simp only [List.mem_singleton] at hu;subst hu;rfl
 ·unfold maxLen;omega
 ·omega
 ·simp;omega
 ·intro v' w2 hown2 hg2 _;exact h v' w2 hown2 (((zC _ _).alloc hbase _).grown hg2 (by simp;omega) (fun q hq=>by exact (World.ownsRow.lt hown q hq).1))
def Rdg (w:World) (R N B:Nat) (p:Value) (ah ms lk:Int) (l:List UInt8) (ss:List Value) (ct:Int) (t:ByteArray):Prop :=
 ∃ v s,w.heap[R]?=some (.cells #[p,.int .i64 ah,.int .i64 ms,.int .i64 lk,v,s,.int .i64 ct,.string t] 219)∧Rest w B v l∧w.ownsRow N 2 1 s ss.length ss
theorem gn (R N B:Nat) (p:Value) (ah ms lk:Int) (l:List UInt8) (ss:List Value) (ct:Int) (t:ByteArray) (w:World) (hRN:R<N) (hBN:B<N) (hN:N≤w.heap.size) (hne:B≠R) (hss:ss.length≤4)
  (h:Rdg w R N B p ah ms lk l ss ct t) :
  Calls prog 211 #[.pointer (some ⟨R,0,none⟩)] w fun e w'=>Off N R w w'∧((l=[]∧e=.returned (cS lk))∨∃ c r,l=c :: r∧e=.returned .nilIface∧Rdg w' R N B p ah ms lk r (ss ++ [.int .i64 c.toNat]) ct t):=by
 obtain ⟨v,s,hR,hv,ho⟩:=h;obtain ⟨sa,sc,hsf⟩:=af ho;subst hsf;rcases l with _ | ⟨c,r⟩
 ·have C:=aa (jK R B 1 [] v lk p (.int .i64 ah) (.int .i64 ms) (.slice sa ss.length sc) (.int .i64 ct) (.string t) w (by simp) hv hR);have HR:=aa hR;have HO:=aa ho;clear hR ho hv;go_enter func211,ntmps211
  go_wp2_with fail
  refine (uh C).mono ?_;rintro e w1 ⟨rfl,k,hk⟩;have hn1:Nr R w w1:=by rw [hk];exact (Nr.refl _ _).drewN k
  have hR1:=(show w1.heap[R]?=w.heap[R]? by rw [hk];rfl).trans (uh HR);have hN1:=zE hN hn1.size;obtain ⟨c0,c1,c2,c3,c4,c5,c6,c7,cf⟩:=j_ hR1;have HR1:=aa hR1;have HO1:=aa (ic (uh HO) hn1 hRN);clear C hk cf hR1
  go_wp2_with (first
   | (at_builtin;refine jt rfl _ _ rfl N (.slice sa ss.length sc) ss.length ss rfl (uh HO1) 0 rfl (by omega) hN1 ?_;rintro v2 w2 ho2 hb2;obtain ⟨va,vc,hv2⟩:=af ho2;subst hv2;have hR2:=(hb2.block R hRN).trans (uh HR1);obtain ⟨e0,e1,e2,e3,e4,e5,e6,e7,ef⟩:=j_ hR2;have hf2:=ef 5;clear ef hR2 ho2))
  go_ret
  exact ⟨((hn1.off hN).trans (Off.of_below hb2)).setR 5 _,Or.inl ⟨trivial,rfl⟩⟩
 ·have C:=aa (pn R B 1 (c :: r) v p (.int .i64 ah) (.int .i64 ms) (.int .i64 lk) (.slice sa ss.length sc) (.int .i64 ct) (.string t) w (by decide) (by simp) (by omega) hne hv hR);rw [show ax (List.take 1 (c :: r))=c.toNat by simp [ax],show List.drop 1 (c :: r)=r from rfl] at C;have HO:=aa ho;clear hR ho hv;go_enter func211,ntmps211
  go_wp2_with fail
  refine (uh C).mono ?_;rintro e w1 ⟨rfl,v1,hR1,hv1,hn1⟩;have hN1:=zE hN hn1.size;obtain ⟨c0,c1,c2,c3,c4,c5,c6,c7,cf⟩:=j_ hR1;have HR1:=aa hR1;have HV1:=aa hv1;have HO1:=aa (ic (uh HO) hn1 hRN);clear C cf hR1 hv1
  go_wp2_with (first
   | (at_builtin;refine jt rfl _ _ rfl N (.slice sa ss.length sc) ss.length ss rfl (uh HO1) c.toNat rfl (by omega) hN1 ?_;rintro v2 w2 ho2 hb2;obtain ⟨va,vc,hv2⟩:=af ho2;subst hv2;have hR2:=(hb2.block R hRN).trans (uh HR1);obtain ⟨e0,e1,e2,e3,e4,e5,e6,e7,ef⟩:=j_ hR2;have hf2:=ef 5;have HO2:=aa ho2;have HR2:=aa hR2;clear ef hR2 ho2))
  go_ret
  refine ⟨((hn1.off hN).trans (Off.of_below hb2)).setR 5 _,Or.inr ⟨c,r,rfl,rfl,v1,.slice va (ss.length+1) vc,?_,?_,?_⟩⟩
  ·rw [zH _ _ 5 _ _ _ (uh HR2)];rfl
  ·exact (uh HV1).same ((Below.heap_setCell w2 ⟨R,5,none⟩ _ B hne).trans (hb2.block B hBN))
  ·rw [List.length_append];exact aY (uh HO2) fun g hg _=>Below.heap_setCell w2 ⟨R,5,none⟩ _ g (by show g≠R;omega)
def oL (ah ms:Int) (n:Nat) (l:List UInt8):Bool:=decide ((n:Int) - ah<0∨ms<(n:Int) - ah∨(l.length:Int)<(n:Int) - ah)
theorem Rdg.nr {w w':World} {R N B:Nat} {p:Value} {ah ms lk:Int} {l:List UInt8} {ss:List Value} {ct:Int} {t:ByteArray} (h:Rdg w R N B p ah ms lk l ss ct t) (h1:w'.heap[R]?=w.heap[R]?) (h2:Nr R w w') (hRN:R<N) (hB:B<w.heap.size) (hne:B≠R):Rdg w' R N B p ah ms lk l ss ct t:=by
 obtain ⟨v,s,e1,e2,e3⟩:=h;exact ⟨v,s,h1.trans e1,e2.same (h2.block B hB hne),ic e3 h2 hRN⟩
theorem m6 (R N B:Nat) (p:Value) (ah ms lk:Int) (l:List UInt8) (ss:List Value) (ct:Int) (t:ByteArray) (n:Nat) (w:World) (hRN:R<N) (hB:B<w.heap.size) (hne:B≠R) (hn:n≤65535) (ha1:0≤ah) (ha2:ah≤10)
  (h:Rdg w R N B p ah ms lk l ss ct t) :
  Calls prog 220 #[.pointer (some ⟨R,0,none⟩),.int .i64 n] w fun e w'=>e=.returned (if oL ah ms n l=true then cS 3 else .nilIface)∧Nr R w w'∧Rdg w' R N B p ah ms lk l ss ((n:Int) - ah) t:=by
 obtain ⟨v,s,hR,hv,ho⟩:=h;obtain ⟨off,cap,hvf,hcap,hl⟩:=hv;subst hvf;obtain ⟨c0,c1,c2,c3,c4,c5,c6,c7,cf⟩:=j_ hR;have hf:=cf 6;have HR:=aa hR;clear cf hR;have HF:Hid (∀ w',w'.heap[R]?=some (.cells #[p,.int .i64 ah,.int .i64 ms,.int .i64 lk,.slice (some ⟨B,off,none⟩) l.length cap,s,.int .i64 ((n:Int) - ah),.string t] 219)→Nr R w w'→Rdg w' R N B p ah ms lk l ss ((n:Int) - ah) t) :=
  aa fun w' q1 q2=>⟨_,s,q1,⟨off,cap,rfl,hcap,hl.same (q2.block B hB hne)⟩,ic ho q2 hRN⟩
 have hb:(decide ((n:Int) - ah<0)=true∧oL ah ms n l=true)∨(decide ((n:Int) - ah<0)=false∧decide (ms<(n:Int) - ah)=true∧oL ah ms n l=true)∨(decide ((n:Int) - ah<0)=false∧decide (ms<(n:Int) - ah)=false∧decide ((l.length:Int)<(n:Int) - ah)=true∧oL ah ms n l=true) ∨
   (decide ((n:Int) - ah<0)=false∧decide (ms<(n:Int) - ah)=false∧decide ((l.length:Int)<(n:Int) - ah)=false∧oL ah ms n l=false):=by
  unfold oL;by_cases h1:(n:Int) - ah<0
  ·exact Or.inl ⟨decide_eq_true h1,decide_eq_true (Or.inl h1)⟩
  ·by_cases h2:ms<(n:Int) - ah
   ·exact Or.inr (Or.inl ⟨decide_eq_false h1,decide_eq_true h2,decide_eq_true (Or.inr (Or.inl h2))⟩)
   ·by_cases h3:(l.length:Int)<(n:Int) - ah
    ·exact Or.inr (Or.inr (Or.inl ⟨decide_eq_false h1,decide_eq_false h2,decide_eq_true h3,decide_eq_true (Or.inr (Or.inr h3))⟩))
    ·exact Or.inr (Or.inr (Or.inr ⟨decide_eq_false h1,decide_eq_false h2,decide_eq_false h3,decide_eq_false (by omega)⟩))
 generalize oL ah ms n l=bd at *;obtain ⟨X,hX⟩:∃ X:Int,(n:Int) - ah=X:=⟨_,rfl⟩;have HX:=aa hX;have HB:=aa hb;rw [hX] at HB HF ⊢;clear hb ho hl hX;go_enter func220,ntmps220
 go_wp2_with fail
 refine ab (fun q=>q.heap[R]?=some (.cells #[p,.int .i64 ah,.int .i64 ms,.int .i64 lk,.slice (some ⟨B,off,none⟩) l.length cap,s,.int .i64 X,.string t] 219)∧Nr R w q)
  ⟨by rw [zH _ _ 6 _ _ _ (uh HR),uh HX];rfl,(Nr.refl _ _).setCell 6 _⟩ ?_
 clear c0 c1 c2 c3 c4 c5 c6 c7 hf HR HX;rintro q ⟨hR,hnr⟩;obtain ⟨c0,c1,c2,c3,c4,c5,c6,c7,cf⟩:=j_ hR;have HR:=aa hR;have hb:=uh HB;clear cf hR HB;rcases hb with ⟨e1,rfl⟩ | ⟨e1,e2,rfl⟩ | ⟨e1,e2,e3,rfl⟩ | ⟨e1,e2,e3,rfl⟩
 all_goals
  go_quiet (fail)
  go_wp2
  go_ret
  exact ⟨rfl,hnr.drewN _,uh HF _ (uh HR) (hnr.drewN _)⟩
end Go.Proofs.YtjdgiimfpkideaaGreatDoor
namespace Go.Proofs.YtjdgiimfpkideaaGreatDoor
open Go.RowKit Go.Proofs.Tryz
theorem uX (l:List UInt8) (h:l.length≤2):ax l≤65535:=by
 rcases l with _ | ⟨c,_ | ⟨d,_ | ⟨e,r⟩⟩⟩
 ·simp [ax]
 ·have:=c.toNat_lt
  simp [ax];omega
 ·have:=c.toNat_lt
  have:=d.toNat_lt
  simp [ax];omega
 ·simp at h
theorem lN (R N B:Nat) (p:Value) (ah ms lk:Int) (l:List UInt8) (ss:List Value) (ct:Int) (t:ByteArray) (w:World) (hRN:R<N) (hB:B<w.heap.size) (hne:B≠R) (ha1:0≤ah) (ha2:ah≤10) (hs:1≤l.length)
  (h:Rdg w R N B p ah ms lk l ss ct t) :
  Calls prog 212 #[.pointer (some ⟨R,0,none⟩)] w fun e w'=>e=.returned (if oL ah ms (ax (l.take 1)) (l.drop 1)=true then cS 3 else .nilIface)∧Nr R w w'∧Rdg w' R N B p ah ms lk (l.drop 1) ss ((ax (l.take 1):Nat) - ah) t:=by
 obtain ⟨v,s,hR,hv,ho⟩:=h;have hM:ax (l.take 1)≤65535:=uX _ (by rw [List.length_take];omega);have C:=aa (pn R B 1 l v p (.int .i64 ah) (.int .i64 ms) (.int .i64 lk) s (.int .i64 ct) (.string t) w (by decide) hs hB hne hv hR);have HO:=aa ho;generalize ax (l.take 1)=M at *;generalize l.drop 1=L at *;obtain ⟨V,hV⟩:∃ V,(if oL ah ms M L=true then cS 3 else .nilIface)=V:=⟨_,rfl⟩;rw [hV];have HV:=aa hV;clear hR ho hv hV;go_enter func212,ntmps212
 go_wp2_with fail
 refine (uh C).mono ?_;rintro e w1 ⟨rfl,v1,hR1,hv1,hn1⟩;have C2:=aa (m6 R N B p ah ms lk L ss ct t M w1 hRN (Nat.lt_of_lt_of_le hB hn1.size) hne hM ha1 ha2 ⟨v1,s,hR1,hv1,ic (uh HO) hn1 hRN⟩);rw [uh HV] at C2;clear C hR1 hv1 HO HV;go_wp2_with fail
 refine (uh C2).mono ?_;rintro e w2 ⟨rfl,hn2,hr2⟩;go_wp2
 go_ret
 exact ⟨rfl,hn1.trans hn2,hr2⟩
theorem m7 (R N B:Nat) (p:Value) (ah ms lk:Int) (l:List UInt8) (ss:List Value) (ct:Int) (t:ByteArray) (w:World) (hs:l.length<1) (h:Rdg w R N B p ah ms lk l ss ct t) :
  Calls prog 212 #[.pointer (some ⟨R,0,none⟩)] w fun e w'=>e=.returned (cS lk)∧Nr R w w':=by
 obtain ⟨v,s,hR,hv,ho⟩:=h;have C:=aa (jK R B 1 l v lk p (.int .i64 ah) (.int .i64 ms) s (.int .i64 ct) (.string t) w hs hv hR);clear hR hv ho;unfold cS at *;go_enter func212,ntmps212
 go_wp2_with fail
 refine (uh C).mono ?_;rintro e w1 ⟨rfl,k,rfl⟩;clear C;go_wp2
 go_ret
 exact ⟨rfl,(Nr.refl _ _).drewN k⟩
theorem sN (R N B:Nat) (p:Value) (ah ms lk:Int) (l:List UInt8) (ss:List Value) (k:Nat) (t:ByteArray) (w:World) (hRN:R<N) (hB:B<w.heap.size) (hne:B≠R) (hk:k≤l.length)
  (h:Rdg w R N B p ah ms lk l ss k t) :
  Calls prog 214 #[.pointer (some ⟨R,0,none⟩)] w fun e w'=>e=.returned .nilIface∧Nr R w w'∧Rdg w' R N B p ah ms lk (l.drop k) ss k (co (l.take k)):=by
 obtain ⟨v,s,hR,hv,ho⟩:=h;obtain ⟨off,cap,hvf,hcap,hl⟩:=hv;subst hvf;have C:=aa (nn R B off l.length cap k p (.int .i64 ah) (.int .i64 ms) (.int .i64 lk) s (.int .i64 k) (.string t) w hk hcap hR);obtain ⟨c0,c1,c2,c3,c4,c5,c6,c7,cf⟩:=j_ hR;have HO:=aa ho;have HL:=aa hl;clear hR ho hl cf;go_enter func214,ntmps214
 go_wp2_with fail
 refine (uh C).mono ?_;rintro e w1 ⟨rfl,ht⟩;obtain ⟨⟨v1,hR1,hv1,hn1⟩,ht2⟩:=jJ ht (uh HL) hB hne;have hcv:=ow ht2 (cap:=k);rw [show (l.take k).length=k by rw [List.length_take];omega] at hcv;obtain ⟨e0,e1,e2,e3,e4,e5,e6,e7,ef⟩:=j_ hR1;have hf:=ef 7;have HR1:=aa hR1;have HV1:=aa hv1;have HO1:=aa (ic (uh HO) hn1 hRN);clear c0 c1 c2 c3 c4 c5 c6 c7 ht ht2 ef C hR1 hv1 HO HL;go_wp2
 go_ret
 refine ⟨rfl,hn1.setCell 7 _,v1,s,?_,?_,?_⟩
 ·rw [zH _ _ 7 _ _ _ (uh HR1)];rfl
 ·exact (uh HV1).same (Below.heap_setCell w1 ⟨R,7,none⟩ _ B hne)
 ·exact aY (uh HO1) fun g hg _=>Below.heap_setCell w1 ⟨R,7,none⟩ _ g (by show g≠R;omega)
end Go.Proofs.YtjdgiimfpkideaaGreatDoor
