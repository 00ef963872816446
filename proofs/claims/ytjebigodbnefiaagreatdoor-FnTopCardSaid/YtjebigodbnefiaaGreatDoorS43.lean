/- DkI DkS DkV DkW -/
import Derived.Test.YtjebigodbnefiaaGreatDoorS41
set_option maxHeartbeats 8000000
set_option maxRecDepth 100000
namespace Go.Proofs.YtjebigodbnefiaaGreatDoor
open Go.RowKit Go.Proofs.Tryz
section
variable {base:Nat} {W W':World} {D:Nat} {k:Ks} {ca:List Value}
theorem qW (h:DkM base W D k ca) (t:ByteArray) (ht:t.size≤8000) (hu:k.d.u.size≤8000) (hk:∀ f ∈ (jZ k.d (bB t)).F,f.kind≤100∧(gH f).size≤10000∧f.text.length≤10000∧(bT f.kind).size≤1000) :
  Calls prog 83 #[.pointer (some ⟨D,0,none⟩),.string ⟨#[98,121,116,101,115]⟩,.string t] W fun e W'=>e=.returned (.tuple #[.string (fe (df (cA (jZ k.d (bB t))))),.nilIface])∧DkM base W' D ⟨rx (jZ k.d (bB t)),k.s,k.now,k.at'⟩ ca∧Od D W W':=by
 have C1:=aa (uV t W (by unfold maxLen;omega));have C2:=aa fun W' (hb:Below W.heap.size W W')=>ye (h.below hb) (bB t) (fV t) hu hk
 clear h hk;generalize bB t=u at *;generalize jZ k.d u=A at *;go_enter func83,ntmps83
 go_wp2_with fail
 refine (uh C1).mono ?_;rintro e w1 ⟨rfl,hb1⟩;have HB1:=aa hb1;clear hb1;go_wp2_with fail
 refine (uh C2 w1 (uh HB1)).mono ?_;rintro e w2 ⟨rfl,hk2,ho2⟩;have HB2:=aa (zA hk2 ((Od.of_below (uh HB1)).trans ho2));clear hk2 ho2 HB1;go_wp2_with fail
 refine (rg (df (cA A)) w2).mono ?_;rintro e w4 ⟨rfl,hw4⟩;replace hw4:=hw4.symm;subst hw4;go_wp2_with fail
 go_ret2
 exact ⟨rfl,uh HB2⟩
end
abbrev fM:List UInt8:=[126,97,98,99,37,158,126]
theorem me:eH (co [97,98,99]) 0 false=co fM:=by kernel_rfl
theorem yl:bb (co [97,98,99])=co [54,49,54,50,54,51]:=by kernel_rfl
abbrev dN:Dd:=⟨false,0,false,false,false,⟨#[]⟩⟩
abbrev dI (l:List UInt8):Dd:=⟨false,0,true,false,false,co l⟩
theorem Bg {P:Nat→Prop} (h:P 0∧P 1∧P 2∧P 3∧P 4∧P 5) (j:Nat) (hj:j<6):P j:=by
 obtain ⟨a0,a1,a2,a3,a4,a5⟩:=h;have:j=0∨j=1∨j=2∨j=3∨j=4∨j=5:=by omega
 rcases this with rfl | rfl | rfl | rfl | rfl | rfl<;>assumption
theorem A3 (j:Nat) (hj:j<6):jZ dN (co (fM.take (j+1)))=⟨false,0,true,false,false,co ((fM.take (j+1)).drop 1),[],0⟩ :=
 Bg (P:=fun j=>jZ dN (co (fM.take (j+1)))=⟨false,0,true,false,false,co ((fM.take (j+1)).drop 1),[],0⟩) ⟨by kernel_rfl,by kernel_rfl,by kernel_rfl,by kernel_rfl,by kernel_rfl,by kernel_rfl⟩ j hj
theorem A4 (j:Nat) (hj:j<6):jZ (dI ((fM.take (j+1)).drop 1)) (co (fM.drop (j+1)))=⟨false,0,true,false,false,⟨#[]⟩,[⟨1,[97,98,99]⟩],0⟩ :=
 Bg (P:=fun j=>jZ (dI ((fM.take (j+1)).drop 1)) (co (fM.drop (j+1)))=⟨false,0,true,false,false,⟨#[]⟩,[⟨1,[97,98,99]⟩],0⟩) ⟨by kernel_rfl,by kernel_rfl,by kernel_rfl,by kernel_rfl,by kernel_rfl,by kernel_rfl⟩ j hj
theorem tL (j:Nat) (hj:j<6):(bb (co fM)).extract 0 (2*j+2)=bb (co (fM.take (j+1))) :=
 Bg (P:=fun j=>(bb (co fM)).extract 0 (2*j+2)=bb (co (fM.take (j+1)))) ⟨by kernel_rfl,by kernel_rfl,by kernel_rfl,by kernel_rfl,by kernel_rfl,by kernel_rfl⟩ j hj
theorem wV (j:Nat) (hj:j<6):(bb (co fM)).extract (2*j+2) 14=bb (co (fM.drop (j+1))) :=
 Bg (P:=fun j=>(bb (co fM)).extract (2*j+2) 14=bb (co (fM.drop (j+1)))) ⟨by kernel_rfl,by kernel_rfl,by kernel_rfl,by kernel_rfl,by kernel_rfl,by kernel_rfl⟩ j hj
theorem gO:(bb (co fM)).size=14:=by kernel_rfl
theorem z8:fe (df (cA ⟨false,0,true,false,false,⟨#[]⟩,[⟨1,[97,98,99]⟩],0⟩))=co [49,58,54,49,54,50,54,51]:=by kernel_rfl
theorem z_ (t:ByteArray):fe (df (cA ⟨false,0,true,false,false,t,[],0⟩))=co [45]:=by kernel_rfl
theorem Aa:fe (bb (co fM))=bb (co fM):=by kernel_rfl
theorem jI (d:Nat) (hd:d<10) (o:EO) (hs:o.e.st=(d:Int)):df (cL o)=co ([115,116,97,116,101,32,UInt8.ofNat (48+d)] ++ Lib.joinTail [32] (o.sn.map fun p=>(bb (rE p)).data.toList)):=by
 have e:bT o.e.st=co [UInt8.ofNat (48+d)]:=by
  rw [hs];unfold bT Lib.itoa;rw [if_neg (by omega),Int.toNat_natCast,Lib.decDigits,dif_pos hd];rfl
 unfold df cL;rw [e,List.map_append,List.map_map];show co _=_
 congr 1
 show Lib.join ([115,116,97,116,101] :: ([UInt8.ofNat (48+d)] :: _)) [32]=_
 rw [Lib.join_cons];unfold Lib.joinTail;rw [List.map_cons,List.flatten_cons];rfl
theorem tM:∀ (L:List ByteArray),(∀ t ∈ L,t.size≤8000)→(Lib.joinTail [32] (L.map fun t=>t.data.toList)).length≤8001*L.length:=by
 intro L;induction L with
 | nil=>intro _;exact Nat.zero_le _
 | cons t L ih =>
  intro h;have h1:=ih fun x hx=>h x (List.mem_cons_of_mem _ hx)
  have h2:=h t List.mem_cons_self;have h3:=oR t;unfold Lib.joinTail at h1 ⊢;rw [List.map_cons,List.map_cons,List.flatten_cons,List.length_append,List.length_cons];show (32 :: t.data.toList).length+_≤_
  rw [List.length_cons];omega
theorem rI (o:EO) (d:Nat) (hd:d<10) (hs:o.e.st=(d:Int)) (hn:o.sn.length≤2):(10:UInt8) ∉ (df (cL o)).data.toList∧(df (cL o)).size≤17000:=by
 have e:=jI d hd o hs;constructor
 ·refine yi (by decide) _ fun t ht=>?_
  unfold cL at ht;rcases List.mem_append.1 ht with ht | ht
  ·rcases List.mem_cons.1 ht with rfl | ht
   ·decide
   ·have:t=bT o.e.st:=by simpa using ht
    rw [this,hs];unfold bT Lib.itoa;rw [if_neg (by omega),Int.toNat_natCast,Lib.decDigits,dif_pos hd];show (10:UInt8) ∉ [UInt8.ofNat (48+d)]
    have hc:d=0∨d=1∨d=2∨d=3∨d=4∨d=5∨d=6∨d=7∨d=8∨d=9:=by omega
    rcases hc with rfl | rfl | rfl | rfl | rfl | rfl | rfl | rfl | rfl | rfl<;>decide
  ·obtain ⟨p,_,rfl⟩:=List.mem_map.1 ht;exact mV (by decide) _
 ·rw [e,eJ,List.length_append];have h:=tM (o.sn.map fun p=>bb (rE p)) fun t ht=>by
   obtain ⟨p,_,rfl⟩:=List.mem_map.1 ht;exact jT _
  rw [List.map_map,List.length_map] at h;have e2:(o.sn.map fun p=>(bb (rE p)).data.toList)=(o.sn.map ((fun t:ByteArray=>t.data.toList) ∘ fun p=>bb (rE p))):=rfl;rw [e2];show 7+_≤_
  omega
theorem Ab:∀ (n:Nat),(10:UInt8) ∉ Lib.decDigits n:=by
 intro n;induction n using Nat.strongRecOn with
 | _ n ih =>
  have key:∀ d,d<10→(10:UInt8) ∉ [UInt8.ofNat (48+d)]:=by
   intro d hd;have hc:d=0∨d=1∨d=2∨d=3∨d=4∨d=5∨d=6∨d=7∨d=8∨d=9:=by omega
   rcases hc with rfl | rfl | rfl | rfl | rfl | rfl | rfl | rfl | rfl | rfl<;>decide
  rw [Lib.decDigits];split
  ·next h=>exact key n h
  ·next h =>
   intro hm;rcases List.mem_append.1 hm with hm | hm
   ·exact ih (n / 10) (by omega) hm
   ·exact key (n % 10) (by omega) hm
theorem ym (k:Ks) (m:Nat) (h:k.s.e.up=true) (hi:k.s.e.i1=300) (ho:k.s.e.o1=(m:Int)):fh k=co ([117,112,32,51,48,48,32] ++ Lib.decDigits m):=by
 unfold fh;rw [if_pos h,hi,ho];unfold df;have e:bT (m:Int)=co (Lib.decDigits m):=by
  unfold bT Lib.itoa;rw [if_neg (by omega),Int.toNat_natCast];rfl
 have e3:bT 300=co [51,48,48]:=by kernel_rfl
 rw [e,e3];show co (Lib.join [[117,112],[51,48,48],(co (Lib.decDigits m)).data.toList] [32])=_
 rw [kN,Lib.join_cons];show co ([117,112] ++ ([32] ++ [51,48,48] ++ ([32] ++ Lib.decDigits m ++ [])))=_
 rw [List.append_nil];rfl
theorem tN (k:Ks) (h:k.s.e.up=false):fh k=co [100,111,119,110]:=by
 unfold fh;rw [h];rfl
theorem xi (m:Nat) (h:m<1000):(Lib.decDigits m).length≤3:=by
 rw [Lib.decDigits];split
 ·exact Nat.le_add_left 1 2
 ·rw [List.length_append,Lib.decDigits];split
  ·exact Nat.le_add_left 2 1
  ·rw [List.length_append,Lib.decDigits,dif_pos (by omega)];exact zD 3
theorem wY (W:World) (b:Nat) (a:Int) (h:W.cell? ⟨b,0,none⟩=some (.int .u8 a)):(convert 22 9 (.slice (some ⟨b,0,none⟩) 1 1)).run prog W=.ok (.string (strOfNums [a])) W :=
 run_convert_bytes_arg (P:=prog) _ 22 5 underlying22 underlying5 b 0 1 1 [a] rfl (fun i hi=>by
  match i,hi with
  | 0,_=>exact h) 9 underlying9
theorem BC {n:Nat} (h:n<10):strOfNums [48+(n:Int)]=co [UInt8.ofNat (48+n)]:=by
 have hc:n=0∨n=1∨n=2∨n=3∨n=4∨n=5∨n=6∨n=7∨n=8∨n=9:=by omega
 rcases hc with rfl | rfl | rfl | rfl | rfl | rfl | rfl | rfl | rfl | rfl<;>rfl
theorem wZ (n:Nat):(Lib.decDigits n).length≤n+1:=by
 induction n using Nat.strongRecOn with
 | _ n ih =>
  rw [Lib.decDigits];split
  ·exact Nat.le_add_left 1 n
  ·have:=ih (n / 10) (by omega)
   rw [List.length_append];show _+1≤_
   omega
theorem kE (l m:List UInt8):co l ++ co m=co (l ++ m):=by
 apply ByteArray.ext
 apply Array.toList_inj.1
 rw [ByteArray.data_append,Array.toList_append,kN,kN,kN]
theorem A5 (n:Nat):∀ (w:World),n<1000000→Calls prog 12 #[.int .i64 n] w fun e w'=>e=.returned (.string (co (Lib.decDigits n)))∧Below w.heap.size w w':=by
 induction n using Nat.strongRecOn with
 | _ n ih =>
  intro w hn;have kc:∀ (W:World) (a:Int),(convert 22 9 (.slice (some ⟨W.heap.size,0,none⟩) 1 1)).run prog (W.alloc (.cells #[.int .u8 a] 5))=.ok (.string (strOfNums [a])) (W.alloc (.cells #[.int .u8 a] 5)):=fun W a=>wY _ _ a (by rw [cr (zF W _)];rfl)
  by_cases h:n<10
  ·have d1:(n:Int)<10:=by omega
   have hw:IntKind.i64.wrap (48+(n:Int))=48+(n:Int):=by rw [IntKind.wrap_i64];omega
   have hu:IntKind.u8.wrap (48+(n:Int))=48+(n:Int):=by rw [IntKind.wrap_u8];omega
   have k0:=kc w (48+(n:Int));clear kc ih;rw [Lib.decDigits,dif_pos h,← BC h];go_enter func12,ntmps12
   go_wp2_with fail
   go_ret
   exact ⟨rfl,(zC _ _).alloc (zD _) _⟩
  ·have d1:¬ (n:Int)<10:=by omega
   have q0:IntKind.i64.wrap ((n:Int) / 10)=(n:Int) / 10:=by rw [IntKind.wrap_i64];omega
   have q1:(n:Int) / 10=((n / 10:Nat):Int):=by omega
   have q2:IntKind.u8.wrap (IntKind.i64.wrap (48+(n:Int).tmod 10))=48+((n % 10:Nat):Int):=by rw [Int.tmod_eq_emod_of_nonneg (by omega),IntKind.wrap_i64,IntKind.wrap_u8];omega
   have Q1:=aa (zA q1 q2);clear q1 q2;have C1:=aa fun W=>ih (n / 10) (by omega) W (by omega)
   have kh:=aa kc;have heq:co (Lib.decDigits n)=co (Lib.decDigits (n / 10)) ++ strOfNums [48+((n % 10:Nat):Int)]:=by
    rw [Lib.decDigits,dif_neg h,BC (by omega),kE]
   have HE:=aa heq;have hzz:∀ a:Int,¬ 9223372036854775807<(co (Lib.decDigits (n / 10))).size+(strOfNums [a]).size:=fun a=>by
    have:=wZ (n / 10)
    rw [eJ,iJ];show ¬ _<_+1
    omega
   clear ih heq kc;rw [uh HE];generalize (48:Int)+((n % 10:Nat):Int)=a at *;generalize co (Lib.decDigits (n / 10))=T1 at *;go_enter func12,ntmps12
   go_upto_region 3 with fail
   refine wp_region_held_drew (S:=fun _=>True) (by kernel_rfl) trivial (fun hHeld=>?_);have HB:Hid (Below w.heap.size w w.drew):=aa (zC _ _).drew;generalize w.drew=y at *;refine tt 0 1 ?_;refine tq 3 4 5 6 ?_;refine r4 2 7 (fun K hK=>?_) (fun K hK=>?_)
   ·go_simp;rw [(uh Q1).1,(uh Q1).2];clear q0 Q1;refine (uh C1 y).mono ?_;rintro e y1 ⟨rfl,hb1⟩;have HB1:=aa ((uh HB).trans (hb1.mono (uh HB).size));clear hb1;go_wp2_with fail
    refine ro hK trivial fun _=>?_
    clear hK K;refine r3 7 fun K hK=>?_
    go_simp;refine ro hK trivial fun _=>?_
    clear hK K;have kk:=uh kh y1 a;refine r3 8 fun K hK=>?_
    go_simp;refine ro hK trivial fun _=>?_
    clear hK K;refine tt 9 10 ?_;refine dn ?_ _;go_wp2_with fail
    go_ret
    exact ⟨rfl,(uh HB1).alloc (uh HB1).size _⟩
   ·go_simp;rw [(uh Q1).1,(uh Q1).2];clear q0 Q1;have HB1:=aa ((uh HB).alloc (uh HB).size (.cells #[.int .u8 a] 5));have kr:=zF y (.cells #[.int .u8 a] 5);have kk:=uh kh y a;generalize y.alloc (.cells #[.int .u8 a] 5)=y1 at *;refine ro hK trivial fun _=>?_
    clear hK K;refine r4 2 8 (fun K hK=>?_) (fun K hK=>?_)
    ·go_simp;refine (uh C1 y1).mono ?_;rintro e y2 ⟨rfl,hb1⟩;have HB2:=aa ((uh HB1).trans (hb1.mono (uh HB1).size));have kr2:=(hb1.block _ (ge.1 kr).1).trans kr;have kk2:=wY y2 y.heap.size a (by rw [cr kr2];rfl);clear hb1 kk kr kr2;go_wp2_with fail
     refine ro hK trivial fun _=>?_
     clear hK K;refine r3 8 fun K hK=>?_
     go_simp;refine ro hK trivial fun _=>?_
     clear hK K;refine tt 9 10 ?_;refine dn ?_ _;go_wp2_with fail
     go_ret
     exact ⟨rfl,uh HB2⟩
    ·go_simp;refine ro hK trivial fun _=>?_
     clear hK K;refine r3 2 fun K hK=>?_
     go_simp;refine (uh C1 y1).mono ?_;rintro e y2 ⟨rfl,hb1⟩;have HB2:=aa ((uh HB1).trans (hb1.mono (uh HB1).size));clear hb1;go_wp2_with fail
     refine ro hK trivial fun _=>?_
     clear hK K;refine tt 9 10 ?_;refine dn ?_ _;go_wp2_with fail
     go_ret
     exact ⟨rfl,uh HB2⟩
def jR (l:List UInt8):Nat→List ByteArray × Nat
 | 0=>([],0)
 | i+1=>if l[i]?=some 10 then ((jR l i).1 ++ [co ((l.take (i+1)).drop (jR l i).2)],i+1) else jR l i
theorem jQ (l:List UInt8) (i:Nat):jR l (i+1)=if l[i]?=some 10 then ((jR l i).1 ++ [co ((l.take (i+1)).drop (jR l i).2)],i+1) else jR l i:=rfl
theorem w7 (l:List UInt8):∀ i,(jR l i).2≤i∧(jR l i).1.length≤i
 | 0=>⟨zD _,zD _⟩
 | i+1=>by
  have:=w7 l i
  unfold jR;split
  ·rw [List.length_append];exact ⟨zD _,by show _+1≤_;omega⟩
  ·omega
theorem rZ (l r:List UInt8):∀ i,i≤l.length→jR (l ++ r) i=jR l i
 | 0,_=>rfl
 | i+1,h=>by
  have:=rZ l r i (by omega)
  rw [jQ,jQ,this,List.getElem?_append_left (by omega),List.take_append_of_le_length h]
theorem w_ (l t:List UInt8) (ht:(10:UInt8) ∉ t) (r:List UInt8):∀ j,j≤t.length→jR (l ++ (t ++ r)) (l.length+j)=jR (l ++ (t ++ r)) l.length
 | 0,_=>rfl
 | j+1,h=>by
  have hi:=w_ l t ht r j (by omega);have e:(l ++ (t ++ r))[l.length+j]?≠some 10:=by
   rw [List.getElem?_append_right (by omega),show l.length+j - l.length=j by omega,List.getElem?_append_left (by omega)];intro e;exact ht (List.mem_of_getElem? e)
  show jR _ (l.length+j+1)=_
  rw [jQ,if_neg e];exact hi
theorem xb (L:List (List UInt8)) (h:∀ t ∈ L,(10:UInt8) ∉ t):jR (bK L) (bK L).length=(L.map fun t=>co (t ++ [10]),(bK L).length):=by
 suffices H:∀ n,n≤L.length→jR (bK (L.take n)) (bK (L.take n)).length=((L.take n).map fun t=>co (t ++ [10]),(bK (L.take n)).length) by
  have:=H L.length (zD _)
  rw [List.take_length] at this;exact this
 intro n;induction n with
 | zero=>intro _;rw [List.take_zero];rfl
 | succ n ih =>
  intro hn;have hi:=ih (by omega);have hT:=h L[n] (List.getElem_mem (by omega));rw [List.take_succ_eq_append_getElem (by omega),kw,List.map_append];generalize L[n]=t at *;generalize L.take n=K at *;have hg:=w_ (bK K) t hT [10] t.length (zD _);have hp:=rZ (bK K) (t ++ [10]) (bK K).length (zD _);rw [hi] at hp;rw [hp] at hg;have e:(bK K ++ (t ++ [10])).length=(bK K).length+t.length+1:=by simp;omega
  rw [List.append_assoc,e];have e2:(bK K ++ (t ++ [10]))[(bK K).length+t.length]?=some 10:=by
   rw [List.getElem?_append_right (by omega),show (bK K).length+t.length - (bK K).length=t.length by omega,List.getElem?_append_right (zD _),Nat.sub_self];rfl
  rw [jQ,if_pos e2,hg,← e,List.take_length];dsimp only;rw [List.drop_left' rfl];rfl
theorem Ac (t:ByteArray) (w:World) (ht:t.size≤900000) :
  Calls prog 10 #[.string t] w fun e w'=>∃ ad cp,e=.returned (.slice ad (jR t.data.toList t.size).1.length cp)∧w'.ownsRow w.heap.size 9 1 (.slice ad (jR t.data.toList t.size).1.length cp) (jR t.data.toList t.size).1.length (a_ (jR t.data.toList t.size).1)∧Below w.heap.size w w':=by
 have hle:=aa (w7 t.data.toList);have hdl:=oR t;have HA:Hid (∀ i (h:i<t.size),t.data.toList[i]?=some (t[i]'h)):=aa fun i h=>by
  rw [List.getElem?_eq_getElem (by rw [hdl];exact h)];rfl
 have HX:Hid (∀ i k,k≤i→i≤t.size→co ((t.data.toList.take i).drop k)=t.extract k i):=aa fun i k _ _=>by
  apply ByteArray.ext
  apply Array.toList_inj.1
  rw [kN,Lib.extract_data,List.drop_take]
 have HU:Hid (∀ i,jR t.data.toList (i+1)=if t.data.toList[i]?=some 10 then ((jR t.data.toList i).1 ++ [co ((t.data.toList.take (i+1)).drop (jR t.data.toList i).2)],i+1) else jR t.data.toList i):=aa fun i=>rfl
 have H0:jR t.data.toList 0=([],0):=rfl;generalize jR t.data.toList=R at *;obtain ⟨n,hn⟩:∃ n,n=t.size:=⟨_,rfl⟩;rw [← hn] at ht hdl ⊢;go_enter func10,ntmps10
 go_wp2_with fail
 go_loopg [3,4,5] n (fun g x f y wr=>∃ (i:Nat) (ad:Option Addr) (cp:Nat),i+g=n∧y=.int .i64 (i:Nat)∧f=.int .i64 ((R i).2:Nat)∧x=.slice ad (R i).1.length cp∧wr.ownsRow w.heap.size 9 1 (.slice ad (R i).1.length cp) (R i).1.length (a_ (R i).1)∧Below w.heap.size w wr)
 case atStart =>
  refine ⟨0,some ⟨w.heap.size,0,none⟩,0,Nat.zero_add _,rfl,by rw [H0];rfl,by rw [H0];rfl,?_,(zC _ _).alloc (zD _) _⟩;rw [H0];exact ⟨rfl,Or.inr ⟨w.heap.size,0,#[],rfl,zD _,zF w _,zD _,Nat.zero_le _,rfl,rfl⟩⟩
 case round =>
  obtain ⟨i,ad,cp,hig,rfl,rfl,rfl,how,hb⟩:=hrel;by_cases hlt:i<n
  ·have hlt2:i<t.size:=by omega
   have hle1:=uh hle i;have hix:∀ W,(Instr.index 9 (.string t) (.int .i64 (i:Int))).run prog W=.ok (.int .u8 ((t[i]'hlt2).toNat:Int)) W:=by
    intro W;rw [run_index_string _ _ _ _ _ underlying9,dif_pos (by omega)];congr 4
   have hg:=uh HA i hlt2;have hu:=uh HU i;rw [hg,uh HX (i+1) (R i).2 (by omega) (by omega)] at hu;generalize t[i]'hlt2=c at *;have d0:(i:Int)<(t.size:Int):=by omega
   have wr1:IntKind.i64.wrap ((i:Int)+1)=(i:Int)+1:=by rw [IntKind.wrap_i64];omega
   have HB:=aa (zA how hb);clear how hb hg HA HX hle;by_cases hc:c=10
   ·rw [if_pos (by rw [hc])] at hu;have d1:(c.toNat:Int)=10:=by rw [hc];rfl
    have x0:(0:Int)≤((R i).2:Nat):=by omega
    have x1:(((R i).2:Nat):Int)≤(i:Int)+1:=by omega
    have x2:(i:Int)+1≤(t.size:Int):=by omega
    go_wp2_with (at_builtin;refine dw rfl _ _ rfl w.heap.size (.slice ad (R i).1.length cp) (R i).1 (R i).1.length rfl rfl (uh HB).1 (t.extract (R i).2 (i+1)) rfl (by omega) (uh HB).2.size ?_;rintro v6 w6 ho6 hg6;obtain ⟨a6,c6,rfl⟩:=af ho6)
    go_roundg (gk - 1)
    case measure=>omega
    case rel=>exact ⟨i+1,a6,c6,by omega,by push_cast;rfl,by rw [hu];push_cast;rfl,by rw [hu,List.length_append];rfl,by rw [hu,List.length_append];exact ho6,((uh HB).2.alloc (uh HB).2.size _).grown hg6 (by have:=(uh HB).2.size;simp;omega) fun g e=>((uh HB).1.lt g e).1⟩
   ·have hc2:¬ (some c=some (10:UInt8)):=fun e=>hc (Option.some.inj e)
    rw [if_neg hc2] at hu;have d1:¬ (c.toNat:Int)=10:=fun e=>hc (UInt8.toNat_inj.1 (show c.toNat=10 by omega))
    go_wp2_with fail
    go_roundg (gk - 1)
    case measure=>omega
    case rel=>exact ⟨i+1,ad,cp,by omega,by push_cast;rfl,by rw [hu],by rw [hu],by rw [hu];exact (uh HB).1,(uh HB).2⟩
  ·have ei:i=n:=by omega
   have d0:¬ (i:Int)<(t.size:Int):=by omega
   have HB:=aa (zA how hb);have hR:=aa (congrArg R (ei.trans hn));clear how hb ei hle HX HU HA;go_wp2_with fail
   go_ret
   rw [uh hR] at HB ⊢;exact ⟨ad,cp,rfl,uh HB⟩
end Go.Proofs.YtjebigodbnefiaaGreatDoor
