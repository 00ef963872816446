/- Split FsmRow LaidEt EndV StrMarks OptArg CfgArg EndTo EndOut OptMarks EndMk Reads2 -/
import Derived.Test.YtjdgiimfpkideaaGreatDoorRows
import Derived.Test.YtjdgiimfpkideaaGreatDoorS04
import Derived.Lay
import Derived.MakeChecks
import Derived.LaidHandle
import Derived.Test.YtjdgiimfpkideaaGreatDoorS02
import Derived.Test.YtjdgiimfpkideaaGreatDoorS01
import Derived.Great.Walk
set_option maxHeartbeats 4000000
namespace Go.Proofs.YtjdgiimfpkideaaGreatDoor
open Go.RowKit Go.Proofs.Tryz
variable {W w q q' w':World} {cs ds:Array Value} {v v1 v2:Value} {F F1 F2:List Op.Opt} {O R:Nat}
def eV(t:ByteArray)(by_:UInt8)(fr i:Nat):Nat->List ByteArray
 | 0=>[t.extract fr t.size]
 | n+1=>if(t.data.toList[i]?).getD 0==by_ then t.extract fr i::eV t by_ (i+1) (i+1) n else eV t by_ fr (i+1) n
def bR(t:ByteArray)(by_:UInt8):List ByteArray:=eV t by_ 0 0 t.size
theorem jG(t:ByteArray)(by_:UInt8)(w:World)(ht:t.size<=100000):Calls prog 98 #[t,.int .u8 by_.toNat] w fun e w'=>∃ad cp,e=.returned (.slice ad (bR t by_).length cp)/\w'.ownsRow w 9 1 (.slice ad (bR t by_).length cp) (bR t by_).length (a_ (bR t by_))/\Below w w w':=by
 have hw0:(w.alloc (.cells #[] 9)).ownsRow w 9 1 (.slice (some (w,0)) 0 0) ([]:List ByteArray).length (a_ []):=World.ownsRow_lit w #[] 0 (zD _) (Nat.zero_le _) rfl;have hb0:Below w w (w.alloc (.cells #[] 9)):=(zC _ _).alloc (zD _) _;have HS:Hid (eV t by_ 0 0 (t.size-0)=bR t by_):=aa rfl;have H0:=aa (zA hw0 hb0);generalize bR t by_=S at*;clear hw0 hb0;go_enter func98,ntmps98
 go_wp2_with fail
 go_loopw [5,6,7] (fun x y z wr=>∃(i fr:Nat)(ad:Option Addr)(cp:Nat)(L:List ByteArray),i<=t.size/\fr<=i/\z=.int .i64 i/\y=.int .i64 fr/\x=.slice ad L.length cp/\L.length<=i/\L++eV t by_ fr i (t.size-i)=S/\wr.ownsRow w 9 1 (ad,L.length,cp) L.length (a_ L)/\Below w w wr) (fun _ _ z _=>t.size-(intOf z).toNat)
 case atStart=>exact⟨0,0,_,_,[],Nat.zero_le _,zD _,rfl,rfl,rfl,zD _,uh HS,H0.out.1,H0.out.2⟩
 case round =>
  obtain⟨i,fr,ad,cp,L,hi,hfr,rfl,rfl,rfl,hLl,hS,ho,hb⟩:=hrel;clear H0 HS;have hbs:=hb.size;have d3:(0:Int)<=(fr:Int):=by omega
  have d4:(fr:Int)<=(i:Int):=by omega
  have d5:(i:Int)<=(t.size:Int):=by omega
  have d6:(fr:Int)<=(t.size:Int):=by omega
  have HO:=aa ho;have HB:=aa hb;have HSS:=aa hS;clear ho hb hS;by_cases hlt:i<t.size
  .have d1:(i:Int)<(t.size:Int):=by omega
   have hget:(t.data.toList[i]?).getD 0=t[i]:=by
    rw[List.getElem?_eq_getElem (by rw[Array.length_toList];exact hlt)];rfl
   have HE:Hid (eV t by_ fr i (t.size-i)=if t[i]==by_ then t.extract fr i::eV t by_ (i+1) (i+1) (t.size-(i+1))else eV t by_ fr (i+1) (t.size-(i+1))):=aa (by
    rw[show t.size-i=(t.size-(i+1))+1 by omega];simp only[eV];rw[hget])
   clear hget;cases hq:(t[i]==by_)
   .have hqi:((t[i].toNat:Int)==(by_.toNat:Int))=false:=vC (by simpa using hq);rw[hq,if_neg (by decide)]at HE;go_wp2_with fail
    go_roundw
    case rel=>exact⟨i+1,fr,ad,cp,L,by omega,by omega,by go_num,rfl,rfl,by omega,by rw[<- uh HE];exact uh HSS,uh HO,uh HB⟩
    case measure=>simp[intOf];omega
   .have hqi:((t[i].toNat:Int)==(by_.toNat:Int))=true:=by rw[eq_of_beq hq];exact beq_self_eq_true _
    rw[hq,if_pos rfl]at HE
    go_wp2_with (first
     | (at_builtin;refine dw rfl _ _ rfl w (ad,L.length,cp) L L.length rfl rfl HO.out (t.extract fr i) rfl (by omega) hbs ?_;rintro v6 w6 ho6 hg6;obtain⟨a6,c6,rfl⟩:=af ho6))
    have hb6:Below w w w6:=(HB.out.alloc hbs _).grown hg6 (by simp;omega) (fun q hq=>(World.ownsRow.lt HO.out q hq).1);go_roundw
    case rel =>
     have hl1:L.length+1=(L++[t.extract fr i]).length:=by rw[List.length_append];rfl
     refine⟨i+1,i+1,a6,c6,L++[t.extract fr i],by omega,by omega,by go_num,by go_num,by rw[<- hl1],by rw[<- hl1];omega,?_,by rw[<- hl1];exact ho6,hb6⟩;rw[<- uh HSS,uh HE,List.append_assoc];rfl
    case measure=>simp[intOf];omega
  .have e:i=t.size:=by omega
   subst e;have d1:¬((t.size:Int)<(t.size:Int)):=by omega
   have HE:Hid (L++[t.extract fr t.size]=S):=aa (by rw[<- uh HSS,Nat.sub_self];rfl);clear HSS
   go_wp2_with (first
    | (at_builtin;refine dw rfl _ _ rfl w (ad,L.length,cp) L L.length rfl rfl HO.out (t.extract fr t.size) rfl (by omega) hbs ?_;rintro v6 w6 ho6 hg6;obtain⟨a6,c6,rfl⟩:=af ho6))
   have hb6:Below w w w6:=(HB.out.alloc hbs _).grown hg6 (by simp;omega) (fun q hq=>(World.ownsRow.lt HO.out q hq).1);go_ret
   have hl1:L.length+1=S.length:=by rw[<- uh HE,List.length_append];rfl
   refine⟨a6,c6,by rw[<- hl1];rfl,?_,hb6⟩;rw[<- hl1,<- uh HE];exact ho6
def iL:List (List UInt8 × List UInt8):=[([85,112],[47,50,44,105,114,99,32,115,99,114,47,54,44,45,44,45,44,45,44,45,44,45,44,45,44,45,44,45]),
 ([68,111,119,110],[45,44,45,44,47,48,44,116,108,115,47,49,44,47,48,44,47,49,44,47,49,44,47,49,44,47,49,44,116,108,100,47,49]),
 ([79,112,101,110],[116,108,115,47,49,44,47,49,44,105,114,99,32,115,99,114,47,54,44,47,51,44,47,53,44,47,53,44,47,54,44,47,55,44,47,56,44,47,57]),
 ([67,108,111,115,101],[47,48,44,116,108,102,47,48,44,47,50,44,47,50,44,47,52,44,47,52,44,105,114,99,32,115,116,114,47,52,44,105,114,99,32,115,116,114,47,52,44,105,114,99,32,115,116,114,47,52,44,116,108,100,32,105,114,99,32,115,116,114,47,52]),
 ([84,79,43],[45,44,45,44,45,44,45,44,115,116,114,47,52,44,115,116,114,47,53,44,115,99,114,47,54,44,115,99,114,47,54,44,115,99,114,47,56,44,45]),
 ([84,79,45],[45,44,45,44,45,44,45,44,116,108,102,47,50,44,116,108,102,47,51,44,116,108,102,47,51,44,116,108,102,47,51,44,116,108,102,47,51,44,45]),
 ([82,67,82,43],[45,44,45,44,115,116,97,47,50,44,105,114,99,32,115,99,114,32,115,99,97,47,56,44,47,52,44,47,53,44,115,99,97,47,56,44,115,99,97,32,116,108,117,47,57,44,115,99,97,47,56,44,116,108,100,32,115,99,114,32,115,99,97,47,56]),
 ([82,67,82,45],[45,44,45,44,115,116,97,47,50,44,105,114,99,32,115,99,114,32,115,99,110,47,54,44,47,52,44,47,53,44,115,99,110,47,54,44,115,99,110,47,55,44,115,99,110,47,54,44,116,108,100,32,115,99,114,32,115,99,110,47,54]),
 ([82,67,65],[45,44,45,44,115,116,97,47,50,44,115,116,97,47,51,44,47,52,44,47,53,44,105,114,99,47,55,44,115,99,114,47,54,44,105,114,99,32,116,108,117,47,57,44,116,108,100,32,115,99,114,47,54]),
 ([82,67,78],[45,44,45,44,115,116,97,47,50,44,115,116,97,47,51,44,47,52,44,47,53,44,105,114,99,32,115,99,114,47,54,44,115,99,114,47,54,44,105,114,99,32,115,99,114,47,56,44,116,108,100,32,115,99,114,47,54]),
 ([82,84,82],[45,44,45,44,115,116,97,47,50,44,115,116,97,47,51,44,115,116,97,47,52,44,115,116,97,47,53,44,115,116,97,47,54,44,115,116,97,47,54,44,115,116,97,47,54,44,116,108,100,32,122,114,99,32,115,116,97,47,53]),
 ([82,84,65],[45,44,45,44,47,50,44,47,51,44,116,108,102,47,50,44,116,108,102,47,51,44,47,54,44,47,54,44,47,56,44,116,108,100,32,115,99,114,47,54]),
 ([82,85,67],[45,44,45,44,115,99,106,47,50,44,115,99,106,47,51,44,115,99,106,47,52,44,115,99,106,47,53,44,115,99,106,47,54,44,115,99,106,47,55,44,115,99,106,47,56,44,115,99,106,47,57]),
 ([82,88,74,43],[45,44,45,44,47,50,44,47,51,44,47,52,44,47,53,44,47,54,44,47,54,44,47,56,44,47,57]),
 ([82,88,74,45],[45,44,45,44,116,108,102,47,50,44,116,108,102,47,51,44,116,108,102,47,50,44,116,108,102,47,51,44,116,108,102,47,51,44,116,108,102,47,51,44,116,108,102,47,51,44,116,108,100,32,105,114,99,32,115,116,114,47,53]),
 ([82,88,82],[45,44,45,44,47,50,44,47,51,44,47,52,44,47,53,44,47,54,44,47,55,44,47,56,44,115,101,114,47,57])]
def aW(t:ByteArray):ByteArray:=co (((iL.find? fun x=>x.1==t.toList).map fun x=>x.2).getD [])
def kF:List ByteArray:=iL.map fun x=>co x.1
theorem cF{t:ByteArray}{l:List UInt8}(h:t.toList=l):t=co l:=by
 rw[ByteArray.toList_eq]at h;rw[<- h];rfl
theorem rF(t:ByteArray)(w:World):Calls prog 97 #[t] w fun e w'=>e=.returned (.string (aW t))/\w'=w:=by
 by_cases h0:t.toList=[85,112]
 .have hr:aW t=⟨#[47,50,44,105,114,99,32,115,99,114,47,54,44,45,44,45,44,45,44,45,44,45,44,45,44,45,44,45]⟩:=by
   unfold aW;rw[h0];rfl
  rw[hr,show t=⟨#[85,112]⟩from cF h0];clear hr;go_enter func97,ntmps97
  go_wp2
  go_ret
  exact⟨rfl,rfl⟩
 by_cases h1:t.toList=[68,111,119,110]
 .have hr:aW t=⟨#[45,44,45,44,47,48,44,116,108,115,47,49,44,47,48,44,47,49,44,47,49,44,47,49,44,47,49,44,116,108,100,47,49]⟩:=by
   unfold aW;rw[h1];rfl
  rw[hr,show t=⟨#[68,111,119,110]⟩from cF h1];clear hr;go_enter func97,ntmps97
  go_wp2
  go_ret
  exact⟨rfl,rfl⟩
 by_cases h2:t.toList=[79,112,101,110]
 .have hr:aW t=⟨#[116,108,115,47,49,44,47,49,44,105,114,99,32,115,99,114,47,54,44,47,51,44,47,53,44,47,53,44,47,54,44,47,55,44,47,56,44,47,57]⟩:=by
   unfold aW;rw[h2];rfl
  rw[hr,show t=⟨#[79,112,101,110]⟩from cF h2];clear hr;go_enter func97,ntmps97
  go_wp2
  go_ret
  exact⟨rfl,rfl⟩
 by_cases h3:t.toList=[67,108,111,115,101]
 .have hr:aW t=⟨#[47,48,44,116,108,102,47,48,44,47,50,44,47,50,44,47,52,44,47,52,44,105,114,99,32,115,116,114,47,52,44,105,114,99,32,115,116,114,47,52,44,105,114,99,32,115,116,114,47,52,44,116,108,100,32,105,114,99,32,115,116,114,47,52]⟩:=by
   unfold aW;rw[h3];rfl
  rw[hr,show t=⟨#[67,108,111,115,101]⟩from cF h3];clear hr;go_enter func97,ntmps97
  go_wp2
  go_ret
  exact⟨rfl,rfl⟩
 by_cases h4:t.toList=[84,79,43]
 .have hr:aW t=⟨#[45,44,45,44,45,44,45,44,115,116,114,47,52,44,115,116,114,47,53,44,115,99,114,47,54,44,115,99,114,47,54,44,115,99,114,47,56,44,45]⟩:=by
   unfold aW;rw[h4];rfl
  rw[hr,show t=⟨#[84,79,43]⟩from cF h4];clear hr;go_enter func97,ntmps97
  go_wp2
  go_ret
  exact⟨rfl,rfl⟩
 by_cases h5:t.toList=[84,79,45]
 .have hr:aW t=⟨#[45,44,45,44,45,44,45,44,116,108,102,47,50,44,116,108,102,47,51,44,116,108,102,47,51,44,116,108,102,47,51,44,116,108,102,47,51,44,45]⟩:=by
   unfold aW;rw[h5];rfl
  rw[hr,show t=⟨#[84,79,45]⟩from cF h5];clear hr;go_enter func97,ntmps97
  go_wp2
  go_ret
  exact⟨rfl,rfl⟩
 by_cases h6:t.toList=[82,67,82,43]
 .have hr:aW t=⟨#[45,44,45,44,115,116,97,47,50,44,105,114,99,32,115,99,114,32,115,99,97,47,56,44,47,52,44,47,53,44,115,99,97,47,56,44,115,99,97,32,116,108,117,47,57,44,115,99,97,47,56,44,116,108,100,32,115,99,114,32,115,99,97,47,56]⟩:=by
   unfold aW;rw[h6];rfl
  rw[hr,show t=⟨#[82,67,82,43]⟩from cF h6];clear hr;go_enter func97,ntmps97
  go_wp2
  go_ret
  exact⟨rfl,rfl⟩
 by_cases h7:t.toList=[82,67,82,45]
 .have hr:aW t=⟨#[45,44,45,44,115,116,97,47,50,44,105,114,99,32,115,99,114,32,115,99,110,47,54,44,47,52,44,47,53,44,115,99,110,47,54,44,115,99,110,47,55,44,115,99,110,47,54,44,116,108,100,32,115,99,114,32,115,99,110,47,54]⟩:=by
   unfold aW;rw[h7];rfl
  rw[hr,show t=⟨#[82,67,82,45]⟩from cF h7];clear hr;go_enter func97,ntmps97
  go_wp2
  go_ret
  exact⟨rfl,rfl⟩
 by_cases h8:t.toList=[82,67,65]
 .have hr:aW t=⟨#[45,44,45,44,115,116,97,47,50,44,115,116,97,47,51,44,47,52,44,47,53,44,105,114,99,47,55,44,115,99,114,47,54,44,105,114,99,32,116,108,117,47,57,44,116,108,100,32,115,99,114,47,54]⟩:=by
   unfold aW;rw[h8];rfl
  rw[hr,show t=⟨#[82,67,65]⟩from cF h8];clear hr;go_enter func97,ntmps97
  go_wp2
  go_ret
  exact⟨rfl,rfl⟩
 by_cases h9:t.toList=[82,67,78]
 .have hr:aW t=⟨#[45,44,45,44,115,116,97,47,50,44,115,116,97,47,51,44,47,52,44,47,53,44,105,114,99,32,115,99,114,47,54,44,115,99,114,47,54,44,105,114,99,32,115,99,114,47,56,44,116,108,100,32,115,99,114,47,54]⟩:=by
   unfold aW;rw[h9];rfl
  rw[hr,show t=⟨#[82,67,78]⟩from cF h9];clear hr;go_enter func97,ntmps97
  go_wp2
  go_ret
  exact⟨rfl,rfl⟩
 by_cases h10:t.toList=[82,84,82]
 .have hr:aW t=⟨#[45,44,45,44,115,116,97,47,50,44,115,116,97,47,51,44,115,116,97,47,52,44,115,116,97,47,53,44,115,116,97,47,54,44,115,116,97,47,54,44,115,116,97,47,54,44,116,108,100,32,122,114,99,32,115,116,97,47,53]⟩:=by
   unfold aW;rw[h10];rfl
  rw[hr,show t=⟨#[82,84,82]⟩from cF h10];clear hr;go_enter func97,ntmps97
  go_wp2
  go_ret
  exact⟨rfl,rfl⟩
 by_cases h11:t.toList=[82,84,65]
 .have hr:aW t=⟨#[45,44,45,44,47,50,44,47,51,44,116,108,102,47,50,44,116,108,102,47,51,44,47,54,44,47,54,44,47,56,44,116,108,100,32,115,99,114,47,54]⟩:=by
   unfold aW;rw[h11];rfl
  rw[hr,show t=⟨#[82,84,65]⟩from cF h11];clear hr;go_enter func97,ntmps97
  go_wp2
  go_ret
  exact⟨rfl,rfl⟩
 by_cases h12:t.toList=[82,85,67]
 .have hr:aW t=⟨#[45,44,45,44,115,99,106,47,50,44,115,99,106,47,51,44,115,99,106,47,52,44,115,99,106,47,53,44,115,99,106,47,54,44,115,99,106,47,55,44,115,99,106,47,56,44,115,99,106,47,57]⟩:=by
   unfold aW;rw[h12];rfl
  rw[hr,show t=⟨#[82,85,67]⟩from cF h12];clear hr;go_enter func97,ntmps97
  go_wp2
  go_ret
  exact⟨rfl,rfl⟩
 by_cases h13:t.toList=[82,88,74,43]
 .have hr:aW t=⟨#[45,44,45,44,47,50,44,47,51,44,47,52,44,47,53,44,47,54,44,47,54,44,47,56,44,47,57]⟩:=by
   unfold aW;rw[h13];rfl
  rw[hr,show t=⟨#[82,88,74,43]⟩from cF h13];clear hr;go_enter func97,ntmps97
  go_wp2
  go_ret
  exact⟨rfl,rfl⟩
 by_cases h14:t.toList=[82,88,74,45]
 .have hr:aW t=⟨#[45,44,45,44,116,108,102,47,50,44,116,108,102,47,51,44,116,108,102,47,50,44,116,108,102,47,51,44,116,108,102,47,51,44,116,108,102,47,51,44,116,108,102,47,51,44,116,108,100,32,105,114,99,32,115,116,114,47,53]⟩:=by
   unfold aW;rw[h14];rfl
  rw[hr,show t=⟨#[82,88,74,45]⟩from cF h14];clear hr;go_enter func97,ntmps97
  go_wp2
  go_ret
  exact⟨rfl,rfl⟩
 by_cases h15:t.toList=[82,88,82]
 .have hr:aW t=⟨#[45,44,45,44,47,50,44,47,51,44,47,52,44,47,53,44,47,54,44,47,55,44,47,56,44,115,101,114,47,57]⟩:=by
   unfold aW;rw[h15];rfl
  rw[hr,show t=⟨#[82,88,82]⟩from cF h15];clear hr;go_enter func97,ntmps97
  go_wp2
  go_ret
  exact⟨rfl,rfl⟩
 have e0:(t.toList==[85,112])=false:=zL h0;have e1:(t.toList==[68,111,119,110])=false:=zL h1;have e2:(t.toList==[79,112,101,110])=false:=zL h2;have e3:(t.toList==[67,108,111,115,101])=false:=zL h3;have e4:(t.toList==[84,79,43])=false:=zL h4;have e5:(t.toList==[84,79,45])=false:=zL h5;have e6:(t.toList==[82,67,82,43])=false:=zL h6;have e7:(t.toList==[82,67,82,45])=false:=zL h7;have e8:(t.toList==[82,67,65])=false:=zL h8;have e9:(t.toList==[82,67,78])=false:=zL h9;have e10:(t.toList==[82,84,82])=false:=zL h10;have e11:(t.toList==[82,84,65])=false:=zL h11;have e12:(t.toList==[82,85,67])=false:=zL h12;have e13:(t.toList==[82,88,74,43])=false:=zL h13;have e14:(t.toList==[82,88,74,45])=false:=zL h14;have e15:(t.toList==[82,88,82])=false:=zL h15;have g0:([85,112]==t.toList)=false:=zL (Ne.symm h0);have g1:([68,111,119,110]==t.toList)=false:=zL (Ne.symm h1);have g2:([79,112,101,110]==t.toList)=false:=zL (Ne.symm h2);have g3:([67,108,111,115,101]==t.toList)=false:=zL (Ne.symm h3);have g4:([84,79,43]==t.toList)=false:=zL (Ne.symm h4);have g5:([84,79,45]==t.toList)=false:=zL (Ne.symm h5);have g6:([82,67,82,43]==t.toList)=false:=zL (Ne.symm h6);have g7:([82,67,82,45]==t.toList)=false:=zL (Ne.symm h7);have g8:([82,67,65]==t.toList)=false:=zL (Ne.symm h8);have g9:([82,67,78]==t.toList)=false:=zL (Ne.symm h9);have g10:([82,84,82]==t.toList)=false:=zL (Ne.symm h10);have g11:([82,84,65]==t.toList)=false:=zL (Ne.symm h11);have g12:([82,85,67]==t.toList)=false:=zL (Ne.symm h12);have g13:([82,88,74,43]==t.toList)=false:=zL (Ne.symm h13);have g14:([82,88,74,45]==t.toList)=false:=zL (Ne.symm h14);have g15:([82,88,82]==t.toList)=false:=zL (Ne.symm h15);have hr:aW t=⟨#[]⟩:=by
  unfold aW iL;simp only[List.find?_cons,g0,g1,g2,g3,g4,g5,g6,g7,g8,g9,g10,g11,g12,g13,g14,g15,List.find?_nil];rfl
 rw[hr];clear hr g0 g1 g2 g3 g4 g5 g6 g7 g8 g9 g10 g11 g12 g13 g14 g15 h0 h1 h2 h3 h4 h5 h6 h7 h8 h9 h10 h11 h12 h13 h14 h15;go_enter func97,ntmps97
 go_wp2
 go_ret
 exact⟨rfl,rfl⟩
def yj(x:ByteArray):Bool:=decide (1<=x.size)&&decide (x.size<=30)&&(decide (48<=(x.data.toList.getLastD 0).toNat)&&decide ((x.data.toList.getLastD 0).toNat<=57)||x.data.toList==[45])
def kQ(r:List UInt8):Bool:=decide ((bR (co r) 44).length=10)&&(bR (co r) 44).all yj&&decide (1<=r.length)&&decide (r.length<=200)
theorem rG:(iL.all fun x=>kQ x.2)=true:=by kernel_rfl
theorem oY(t:ByteArray):aW t=⟨#[]⟩\/kQ (aW t).data.toList=true:=by
 unfold aW;cases h:iL.find? fun x=>x.1==t.toList with
 | none=>left;rfl
 | some x=>right;exact List.all_eq_true.1 rG x (List.mem_of_find?_eq_some h)
section
open Go.ChangeShapes Go.WideShapes Go.ChangeAt Go.RowKit
theorem vN: prog.globalNamed "errors.errorType" = some 4 := by kernel_rfl
theorem vO: (prog.cutTypes.find? (·.1 == "internal/reflectlite.rtype")).map (·.2) = some 272 := by kernel_rfl
theorem rU:((List.range 321).filter fun t=>prog.rowNamed t [101,114,114,111,114])=[201]:=by kernel_rfl
theorem mz:prog.types.size=321:=by kernel_rfl
def ke: List (String × DataW Unit) := [("errors.errorType", Rows.laid_errors_errorType)]
theorem vP(h:laidMetH prog ke W):Et W:=by
 have h':laidMet prog [] W/\handlesMet prog ke W:=h;obtain⟨name,u,ty,e1,e2,e3,e4,e5⟩:=h'.2 _ (List.mem_singleton.2 rfl);have en:name=[101,114,114,111,114]:=(Option.some.inj e1).symm;subst en;obtain rfl:=Option.some.inj (vO.symm.trans e2);have hm:ty∈(List.range 321).filter fun t=>prog.rowNamed t [101,114,114,111,114]:=List.mem_filter.2 ⟨List.mem_range.2 (by rw[<- mz];exact e3),e4⟩
 rw[rU]at hm;obtain rfl:=List.mem_singleton.1 hm;have hh:typeHandle prog 201=.pointer (some (6,201)):=by kernel_rfl
 rw[hh]at e5;have:=World.var?_cell vN e5 0
 exact this
noncomputable def np(os:Os):World :=
 let w0:=World.holding prog os ⟨#[],#[],[]⟩
 {w0 with heap:=w0.heap.modify 4 fun
   | .cells _ t frozen=>.cells #[.iface 272 (.agg #[(6,201)])] t frozen
   | o=>o}
end
structure En where
 m1:Int
 a1:Int
 g1:Int
 p1:Bool
 c1:Bool
 d1:Bool
 m2:Int
 a2:Int
 g2:Int
 p2:Bool
 c2:Bool
 d2:Bool
 st:Int
 tr:Int
 du:Int
 id:Int
 fl:Int
 up:Bool
 i1:Int
 i2:Int
 i3:Bool
 i4:Bool
 i5:Bool
 o1:Int
 o2:Int
 o3:Bool
 o4:Bool
 o5:Bool
abbrev aA(e:En)(v1 v2:Value):Array Value:=#[e.m1,e.a1,e.g1,e.p1,e.c1,e.d1,e.m2,e.a2,e.g2,e.p2,e.c2,e.d2,e.st,e.tr,e.du,e.id,e.fl,v1,v2,e.up,e.i1,e.i2,e.i3,e.i4,e.i5,e.o1,e.o2,e.o3,e.o4,e.o5]
structure EqE(w:World)(cs ds:Array Value)(q:World):Prop where
 a:q.heap[w.heap.size]?=some (.cells cs 32)
 b:q.heap[w.heap.size+1]?=some (.cells ds 32)
 l:Below w w q
theorem EqE.step(h:EqE w cs ds q)(hb:Below q q q'):EqE w cs ds q' :=
 ⟨(hb.block _ (ge.1 h.a).1).trans h.a,(hb.block _ (ge.1 h.b).1).trans h.b,h.l.trans (hb.mono h.l.size)⟩
def mtl(k n:Nat):List ByteArray:=(List.range n).map fun i=>rC (k+i)
def ArgO(w:World)(v:Value)(F:List Op.Opt):Prop :=
 (∃a cap,v=.slice a F.length cap)/\∀i (hi:i<F.length),∃b o cap,v=.slice (some (b,o)) F.length cap/\b<w.heap.size/\w.cell? ⟨b,o+i*2,none⟩=some (.int .i64 F[i].kind)/\w.cell? ⟨b,o+i*2+1,none⟩=some (.string F[i].data)/\F[i].data.size<=maxLen
theorem ArgO.below(h:ArgO w v F)(hb:Below w w w'):ArgO w' v F :=
 ⟨h.1,fun i hi=>by
  obtain⟨b,o,cap,h1,h2,h3,h4,h5⟩:=h.2 i hi;exact⟨b,o,cap,h1,Nat.lt_of_lt_of_le h2 hb.size,(hb.cell (p:=⟨b,o+i*2,none⟩) h2).trans h3,(hb.cell (p:=⟨b,o+i*2+1,none⟩) h2).trans h4,h5⟩⟩
structure HH(v1 v2:Value)(F1 F2:List Op.Opt)(O R:Nat)(q:World):Prop where
 h1:HoldsO q v1 F1
 h2:HoldsO q v2 F2
 n1:∀g,v1.ownBlock=some g->g≠O/\g≠R
 n2:∀g,v2.ownBlock=some g->g≠O/\g≠R
theorem HoldsO.other(h:HoldsO w v F)(hw:∀g,v.ownBlock=some g->w'.heap[g]?=w.heap[g]?):HoldsO w' v F:=by
 rcases h with⟨ad,cp,e,e0⟩|⟨g,cp,cur,e,q1,q2⟩
 .exact Or.inl ⟨ad,cp,e,e0⟩
 .exact Or.inr ⟨g,cp,cur,e,(hw g (by rw[e];rfl)).trans q1,q2⟩
theorem HoldsO.lt(h:HoldsO w v F)(hF:F≠[])(g:Nat)(hg:v.ownBlock=some g):g<w.heap.size:=by
 rcases h with⟨_,_,_,e⟩|⟨g',cp,cur,e,q1,_⟩
 .exact absurd e hF
 .rw [e]at hg;cases hg;exact(ge.1 q1).1
theorem HH.set(h:HH v1 v2 F1 F2 O R q)(i:Nat)(x:Value):HH v1 v2 F1 F2 O R (q.setCell (O,i) x) :=
 ⟨h.h1.other fun g hg=>zJ _ _ _ _ (h.n1 g hg).1,h.h2.other fun g hg=>zJ _ _ _ _ (h.n2 g hg).1,h.n1,h.n2⟩
theorem HH.step(h:HH v1 v2 F1 F2 O R q)(hb:Below q q q'):HH v1 v2 F1 F2 O R q' :=
 ⟨h.h1.below hb rfl,h.h2.below hb rfl,h.n1,h.n2⟩
theorem HH.row(h:HH v1 v2 F1 F2 O R q)(cs:Array Value):HH v1 v2 F1 F2 O R (q.setRow R cs) :=
 ⟨h.h1.other fun g hg=>setRow_other _ _ _ _ (h.n1 g hg).2,h.h2.other fun g hg=>setRow_other _ _ _ _ (h.n2 g hg).2,h.n1,h.n2⟩
theorem aL:(prog.info? 32).map (·.size)=some 30:=by kernel_rfl
theorem ja{E:Nat}(h:W.heap[E]?=some (.cells cs 32))(hs:cs.size=30:=by rfl):(loadVar 32 (E,0)).run prog W=.ok (.agg cs) W :=
 run_loadVar_row (P:=prog) _ _ 32 32 cs (0,0) _ h underlying32 rfl (by rw[hs];exact aL)
theorem am{B g:Nat}{w0:World}(hb:Below B w0 w)(h:B<=g)(cs:Array Value):Below B w0 (w.setRow g cs) :=
 ⟨hb.os,hb.tape,hb.output,by rw[size_setRow];exact hb.size,fun b hlt=>(setRow_other _ _ _ _ (by omega)).trans (hb.block b hlt)⟩
theorem kh(w:World)(a b c:Obj):(((w.alloc a).alloc b).alloc c).heap[w.heap.size]?=some a/\(((w.alloc a).alloc b).alloc c).heap[w.heap.size+1]?=some b/\(((w.alloc a).alloc b).alloc c).heap[w.heap.size+1+1]?=some c/\Below w w (((w.alloc a).alloc b).alloc c):=by
 have s1:(w.alloc a).heap.size=w.heap.size+1:=by simp
 have s2:((w.alloc a).alloc b).heap.size=w.heap.size+1+1:=by simp
 have e2:=zF (w.alloc a) b;have e3:=zF ((w.alloc a).alloc b) c;rw[s1]at e2;rw[s2]at e3;refine⟨?_,?_,e3,(((zC _ _).alloc (zD _) _).alloc (by omega) _).alloc (by omega) _⟩
 .rw [zG _ _ _ (by omega),zG _ _ _ (by omega)];exact zF w a
 .rw [zG _ _ _ (by omega)];exact e2
abbrev aC(e:En)(v1 v2 v3 v4:Value)(cd:Int):Array Value:=#[.int .i64 e.m1,.int .i64 e.a1,.int .i64 e.g1,.bool e.p1,.bool e.c1,.bool e.d1,.int .i64 e.m2,.int .i64 e.a2,.int .i64 e.g2,.bool e.p2,.bool e.c2,.bool e.d2,.int .i64 e.st,.int .i64 e.tr,.int .i64 e.du,.int .i64 e.id,.int .i64 e.fl,v1,v2,.bool e.up,.int .i64 e.i1,.int .i64 e.i2,.bool e.i3,.bool e.i4,.bool e.i5,.int .i64 e.o1,.int .i64 e.o2,.bool e.o3,.bool e.o4,.bool e.o5,v3,v4,.int .i64 cd]
structure EqO(w:World)(cs ds:Array Value)(q:World):Prop where
 a:q.heap[w.heap.size]?=some (.cells cs 74)
 b:q.heap[w.heap.size+1]?=some (.cells ds 74)
 l:Below w w q
theorem EqO.step(h:EqO w cs ds q)(hb:Below q q q'):EqO w cs ds q' :=
 ⟨(hb.block _ (ge.1 h.a).1).trans h.a,(hb.block _ (ge.1 h.b).1).trans h.b,h.l.trans (hb.mono h.l.size)⟩
def jb(k n:Nat):List Op.Opt:=(List.range n).map fun i=>⟨((k+2*i:Nat):Int),rC (k+2*i+1)⟩
def nb(n:Nat)(v:Value):Option Nat:=if n=0 then none else v.ownBlock
theorem r6(v:Value):nb 0 v=none:=if_pos rfl
theorem dC{n:Nat}(h:n≠0)(v:Value):nb n v=v.ownBlock:=if_neg h
theorem uX(l:List UInt8)(h:l.length<=2):da l<=65535:=by
 rcases l with _|⟨c,_|⟨d,_|⟨e,r⟩⟩⟩
 .simp [da]
 .have:=c.toNat_lt
  simp[da];omega
 .have:=c.toNat_lt
  have:=d.toNat_lt
  simp[da];omega
 .simp at h
theorem lN(R N B:Nat)(p:Value)(ah ms lk:Int)(l:List UInt8)(ss:List Value)(ct:Int)(t:ByteArray)(w:World)(hRN:R<N)(hB:B<w.heap.size)(hne:B≠R)(ha1:0<=ah)(ha2:ah<=10)(hs:1<=l.length)(h:Rdg w R N B p ah ms lk l ss ct t):Calls prog 212 #[(R,0)] w fun e w'=>e=.returned (if oL ah ms (da (l.take 1)) (l.drop 1)=true then cS 3 else .nilIface)/\Nr R w w'/\Rdg w' R N B p ah ms lk (l.drop 1) ss ((da (l.take 1):Nat)-ah) t:=by
 obtain⟨v,s,hR,hv,ho⟩:=h;have hM:da (l.take 1)<=65535:=uX _ (by rw[List.length_take];omega);have C:=aa (pn R B 1 l v p ah ms lk s ct t w (by decide) hs hB hne hv hR);have HO:=aa ho;generalize da (l.take 1)=M at*;generalize l.drop 1=L at*;obtain⟨V,hV⟩:∃V,(if oL ah ms M L=true then cS 3 else .nilIface)=V:=⟨_,rfl⟩;rw[hV];have HV:=aa hV;clear hR ho hv hV;go_enter func212,ntmps212
 go_wp2_with fail
 refine C.out.mono ?_;rintro e w1⟨rfl,v1,hR1,hv1,hn1⟩;have C2:=aa (m6 R N B p ah ms lk L ss ct t M w1 hRN (Nat.lt_of_lt_of_le hB hn1.size) hne hM ha1 ha2 ⟨v1,s,hR1,hv1,ic HO.out hn1 hRN⟩);rw[uh HV]at C2;clear C hR1 hv1 HO HV;go_wp2_with fail
 refine C2.out.mono ?_;rintro e w2⟨rfl,hn2,hr2⟩;go_wp2
 go_ret
 exact⟨rfl,hn1.trans hn2,hr2⟩
theorem m7(R N B:Nat)(p:Value)(ah ms lk:Int)(l:List UInt8)(ss:List Value)(ct:Int)(t:ByteArray)(w:World)(hs:l.length<1)(h:Rdg w R N B p ah ms lk l ss ct t):Calls prog 212 #[(R,0)] w fun e w'=>e=.returned (cS lk)/\Nr R w w':=by
 obtain⟨v,s,hR,hv,ho⟩:=h;have C:=aa (jK R B 1 l v lk p ah ms s ct t w hs hv hR);clear hR hv ho;unfold cS at*;go_enter func212,ntmps212
 go_wp2_with fail
 refine C.out.mono ?_;rintro e w1⟨rfl,k,rfl⟩;clear C;go_wp2
 go_ret
 exact⟨rfl,(Nr.refl _ _).drewN k⟩
theorem sN(R N B:Nat)(p:Value)(ah ms lk:Int)(l:List UInt8)(ss:List Value)(k:Nat)(t:ByteArray)(w:World)(hRN:R<N)(hB:B<w.heap.size)(hne:B≠R)(hk:k<=l.length)(h:Rdg w R N B p ah ms lk l ss k t):Calls prog 214 #[(R,0)] w fun e w'=>e=.returned .nilIface/\Nr R w w'/\Rdg w' R N B p ah ms lk (l.drop k) ss k (co (l.take k)):=by
 obtain⟨v,s,hR,hv,ho⟩:=h;obtain⟨off,cap,hvf,hcap,hl⟩:=hv;subst hvf;have C:=aa (Cl R B off l.length cap k p ah ms lk s k t w hk hcap hR);obtain⟨c0,c1,c2,c3,c4,c5,c6,c7,cf⟩:=j_ hR;have HO:=aa ho;have HL:=aa hl;clear hR ho hl cf;go_enter func214,ntmps214
 go_wp2_with fail
 refine C.out.mono ?_;rintro e w1⟨rfl,ht⟩;obtain⟨⟨v1,hR1,hv1,hn1⟩,ht2⟩:=jJ ht HL.out hB hne;have hcv:=ow ht2 (cap:=k);rw[show(l.take k).length=k by rw[List.length_take];omega]at hcv;obtain⟨e0,e1,e2,e3,e4,e5,e6,e7,ef⟩:=j_ hR1;have hf:=ef 7;have HR1:=aa hR1;have HV1:=aa hv1;have HO1:=aa (ic HO.out hn1 hRN);clear c0 c1 c2 c3 c4 c5 c6 c7 ht ht2 ef C hR1 hv1 HO HL;go_wp2
 go_ret
 refine⟨rfl,hn1.setCell 7 _,v1,s,?_,?_,?_⟩
 .rw [zH _ _ 7 _ _ _ HR1.out];rfl
 .exact HV1.out.same (zJ w1 (R,7) _ B hne)
 .exact aY HO1.out fun g hg _=>zJ w1 (R,7) _ g (by show g≠R;omega)
end Go.Proofs.YtjdgiimfpkideaaGreatDoor
