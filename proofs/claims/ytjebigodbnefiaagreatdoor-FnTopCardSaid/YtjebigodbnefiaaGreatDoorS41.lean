/- DkH DkN DkO -/
import Derived.Test.YtjebigodbnefiaaGreatDoorS40
set_option maxHeartbeats 16000000
set_option maxRecDepth 100000
namespace Go.Proofs.YtjebigodbnefiaaGreatDoor
open Go.RowKit Go.Proofs.Tryz
theorem AK {W:World} {g i:Nat} {L:List Hd.Fd} {cur:Array Value} (h:W.heap[g]?=some (.cells cur 141)) (hc:∀ j,j<L.length*2→cur[j]?=(cj L)[j]?) (hi:i<L.length):W.cell? ⟨g,i*2,none⟩=some (.int .i64 (L[i].kind:Int))∧W.cell? ⟨g,i*2+1,none⟩=some (.string (co L[i].text)):=by
 obtain ⟨k0,k1⟩:=k_ L i L[i] (List.getElem?_eq_getElem hi);exact ⟨by rw [cr h,hc _ (by omega)];exact k0,by rw [cr h,hc _ (by omega)];exact k1⟩
def gH (f:Hd.Fd):ByteArray:=if f.kind=1 then bT f.kind ++ (⟨#[58]⟩ ++ bb (co f.text)) else bT f.kind
section
variable {base:Nat} {W W':World} {D:Nat} {k:Ks} {ca:List Value}
theorem DkM.setD (h:DkM base W D k ca) (d:Dd):DkM base (W.setCells D 0 (iP d)) D ⟨d,k.s,k.now,k.at'⟩ ca∧Od D W (W.setCells D 0 (iP d)):=by
 have r0:W.heap[D]?=some (.cells (([]:List Value) ++ iP k.d ++ (ca ++ [Value.int .i64 k.now,Value.int .i64 k.at'])).toArray 74):=by rw [h.row];simp
 have r:=cH (iP k.d) (iP d) [] (ca ++ [Value.int .i64 k.now,Value.int .i64 k.at']) W r0 rfl;have f:=Fr.cells (B:=D) (.slice none 0 0) (.slice none 0 0) W (fun _ hg=>by cases hg) 0 (iP d);have hs:∀ g,g≠D→(W.setCells D 0 (iP d)).heap[g]?=W.heap[g]?:=fun g hg=>bu hg (iP d) 0 W
 have hb:Below base W (W.setCells D 0 (iP d)):=⟨f.os,f.tape,f.output,f.size,fun b hb=>hs b (by have:=h.bs;omega)⟩;refine ⟨⟨?_,h.en.keep fun g _ hg=>hs g (fQ h.row hg (by decide)),h.bs,h.lo.step hb,h.tb.step hb⟩,f.os,f.tape,f.output,f.size,fun b _ hD=>hs b hD⟩;have r2:(W.setCells D 0 (iP d)).heap[D]?=_:=r;rw [r2];simp
theorem DkM.rangeD (h:DkM base W D k ca):W.rangeAt D 0 (iP k.d) :=
 aS (T:=74) (X:=[]) (Z:=ca ++ [Value.int .i64 k.now,Value.int .i64 k.at']) (by rw [h.row];simp)
theorem DkM.thereD (h:DkM base W D k ca):W.there D 0 6 :=
 ii (T:=74) (X:=[]) (Y:=iP k.d) (Z:=ca ++ [Value.int .i64 k.now,Value.int .i64 k.at']) (by rw [h.row];simp)
structure FoH (base:Nat) (W:World) (D E:Nat) (k1:Ks) (ca:List Value) (cs:Array Value) (vs:Value) (F:List Hd.Fd) (q:World):Prop where
 dk:DkM base q D k1 ca
 er:q.heap[E]?=some (.cells cs 138)
 hp:HoldsF q vs F
 od:Od D W q
 be:base≤W.heap.size
section
variable {E:Nat} {k1:Ks} {cs:Array Value} {vs:Value} {F:List Hd.Fd} {q q':World}
theorem FoH.keep (h:FoH base W D E k1 ca cs vs F q) (os:q'.os=q.os) (tape:q'.tape=q.tape) (output:q'.output=q.output) (size:q.heap.size≤q'.heap.size) (low:∀ g,g<W.heap.size→q'.heap[g]?=q.heap[g]?) (k:∀ (g:Nat) (cur:Array Value) (T:TypeId),q.heap[g]?=some (.cells cur T)→T≠9→q'.heap[g]?=q.heap[g]?):FoH base W D E k1 ca cs vs F q':=by
 have hb:Below base q q':=⟨os,tape,output,size,fun b hb=>low b (Nat.lt_of_lt_of_le hb h.be)⟩;refine ⟨⟨(k D _ _ h.dk.row (by decide)).trans h.dk.row,h.dk.en.keep fun g cur hg=>k g cur _ hg (by decide),h.dk.bs,h.dk.lo.step hb,h.dk.tb.step hb⟩,(k E _ _ h.er (by decide)).trans h.er,h.hp.imp id fun ⟨g,cp,cur,e,q1,q2⟩=>⟨g,cp,cur,e,(k g _ _ q1 (by decide)).trans q1,q2⟩,?_,h.be⟩;exact ⟨os.trans h.od.os,tape.trans h.od.tape,output.trans h.od.output,zE h.od.size size,fun g hg hD=>(low g hg).trans (h.od.same g hg hD)⟩
theorem FoH.below (h:FoH base W D E k1 ca cs vs F q) (hb:Below q.heap.size q q'):FoH base W D E k1 ca cs vs F q' :=
 h.keep hb.os hb.tape hb.output hb.size (fun g hg=>hb.block g (Nat.lt_of_lt_of_le hg h.od.size)) fun g _ _ hg _=>hb.block g (ge.1 hg).1
theorem FoH.grown (h:FoH base W D E k1 ca cs vs F q) {r:Option Nat} (hg:q.grownBy q' r) (hr:∀ g,r=some g→W.heap.size≤g∧∃ c,q.heap[g]?=some (.cells c 9)):FoH base W D E k1 ca cs vs F q' :=
 h.keep hg.os hg.tape hg.output hg.size (fun g hl=>hg.block g (Nat.lt_of_lt_of_le hl h.od.size) fun e=>by have:=(hr g e.symm).1;omega) fun g cur T hc hT=>hg.block g (ge.1 hc).1 fun e=>by
  obtain ⟨_,c,h2⟩:=hr g e.symm;exact fQ h2 hc (Ne.symm hT) rfl
end
def jZ (d:Dd) (t:ByteArray):Ans:=jB d.wide d.x d.inn d.esc d.long d.u t
def rx (A:Ans):Dd:=⟨A.wide,A.x,A.inn,A.esc,A.long,A.text⟩
def cA (A:Ans):List ByteArray:=A.F.map gH
theorem ye (h:DkM base W D k ca) (t:ByteArray) (ht:t.size≤8000) (hu:k.d.u.size≤8000) (hk:∀ f ∈ (jZ k.d t).F,f.kind≤100∧(gH f).size≤10000∧f.text.length≤10000∧(bT f.kind).size≤1000) :
  Calls prog 95 #[.pointer (some ⟨D,0,none⟩),.string t] W fun e W'=>e=.returned (.string (df (cA (jZ k.d t))))∧DkM base W' D ⟨rx (jZ k.d t),k.s,k.now,k.at'⟩ ca∧Od D W W':=by
 have CD:=aa (oJ k.d.wide k.d.x k.d.inn k.d.esc k.d.long k.d.u t W (by unfold maxLen;omega) (by unfold maxLen;omega) h.tb.get.2.2.2);have hF:=AJ k.d.wide k.d.x k.d.inn k.d.esc k.d.long k.d.u t;have HH:=aa h;have hbs:base≤W.heap.size:=by have:=h.bs;have:=h.lt;omega
 have hlt:=h.lt;clear h;unfold jZ at *;generalize jB k.d.wide k.d.x k.d.inn k.d.esc k.d.long k.d.u t=A at *;go_enter func95,ntmps95
 have CQ:Hid (Calls prog 111 #[.agg (iP k.d).toArray,.string t] W fun e w'=>∃ v,e=.returned (.agg #[.bool A.wide,.int .i64 A.x,.bool A.inn,.bool A.esc,.bool A.long,.string A.text,v,.int .i64 A.code])∧(HoldsF w' v A.F∧∀ g,v.ownBlock=some g→W.heap.size≤g)∧Below W.heap.size W w'):=CD;clear CD;go_wp2_with (refine wpList_load_mid rfl 68 (.tmp 12) rfl D 0 rfl (iP k.d) _ (uh HH).rangeD underlying68 rfl (by kernel_rfl) ?_)
 refine (uh CQ).mono ?_;rintro e w1 ⟨v,rfl,⟨hv,hvo⟩,hb1⟩;obtain ⟨av,cv9,hvf⟩:∃ a c,v=.slice a A.F.length c:=by
  rcases hv with ⟨ad,cp,e,e2⟩ | ⟨g,cp,cur,e,_⟩
  ·exact ⟨ad,cp,by rw [e,e2];rfl⟩
  ·exact ⟨_,_,e⟩
 subst hvf;have HD:=aa ((uh HH).below hb1);have HB:=aa hb1;have HV:=aa hv;clear hb1 hv hvo HH CQ;go_upto_region 2 with fail
 have hba:=aa ((zC w1.heap.size w1).alloc (zD _) (.cells #[.bool A.wide,.int .i64 A.x,.bool A.inn,.bool A.esc,.bool A.long,.string A.text,.slice av A.F.length cv9,.int .i64 A.code] 138));refine aI (fun q=>DkM base q D k ca∧q.heap[w1.heap.size]?=some (.cells #[.bool A.wide,.int .i64 A.x,.bool A.inn,.bool A.esc,.bool A.long,.string A.text,.slice av A.F.length cv9,.int .i64 A.code] 138)∧HoldsF q (.slice av A.F.length cv9) A.F∧Below W.heap.size W q) ⟨(uh HD).below (uh hba),zF w1 _,(uh HV).below (uh hba),(uh HB).trans ((uh hba).mono (uh HB).size)⟩ ?_;have nE:W.heap.size≤w1.heap.size:=(uh HB).size;generalize w1.heap.size=E at *;clear HD HB HV hba;rintro q ⟨hD,hE,hV,hB⟩;have F0:Hid (FoH base W D E ⟨rx A,k.s,k.now,k.at'⟩ ca #[.bool A.wide,.int .i64 A.x,.bool A.inn,.bool A.esc,.bool A.long,.string A.text,.slice av A.F.length cv9,.int .i64 A.code] (.slice av A.F.length cv9) A.F (q.setCells D 0 (iP (rx A)))):=aa (by
  obtain ⟨q1,q2⟩:=hD.setD (rx A);have hs:∀ g,g≠D→(q.setCells D 0 (iP (rx A))).heap[g]?=q.heap[g]?:=fun g hg=>bu hg _ 0 _
  exact ⟨q1,(hs _ (by omega)).trans hE,hV.imp id fun ⟨g,cp,cur,e,q1,q2⟩=>⟨g,cp,cur,e,(hs g (fQ hD.row q1 (by decide))).trans q1,q2⟩,(Od.of_below hB).trans q2,hbs⟩)
 have HR:Hid (q.rangeAt E 0 (iP (rx A))∧q.there D 0 6):=aa ⟨aS (T:=138) (X:=[]) (Z:=[.slice av A.F.length cv9,.int .i64 A.code]) hE,hD.thereD⟩;clear hD hE hV hB;have h6:(iP (rx A)).length=6:=rfl;have h1c:(iP (rx A)).toArray.all (·.oneCell')=true:=by kernel_rfl
 generalize iP (rx A)=dl at *
 go_upto_region 4 with (first
  | (refine wpList_load_mid rfl 68 (.tmp 17) rfl E 0 rfl dl _ (uh HR).1 underlying68 rfl (by rw [h6];kernel_rfl) ?_)
  | (refine wpList_store_mid rfl 68 (.tmp 20) (.tmp 18) rfl D 0 dl.toArray rfl rfl (by rw [List.size_toArray,h6];exact (uh HR).2) (by rw [List.size_toArray,h6];kernel_rfl) h1c ?_))
 refine aI (fun q=>FoH base W D E ⟨rx A,k.s,k.now,k.at'⟩ ca #[.bool A.wide,.int .i64 A.x,.bool A.inn,.bool A.esc,.bool A.long,.string A.text,.slice av A.F.length cv9,.int .i64 A.code] (.slice av A.F.length cv9) A.F q) (uh F0) ?_;clear F0 HR;intro q1 hF1;have c6:q1.cell? ⟨E,6,none⟩=some (.slice av A.F.length cv9):=by rw [cr hF1.er];rfl
 have HF1:=aa hF1;clear hF1;generalize hn:A.F.length=n at *;generalize hcs:(#[.bool A.wide,.int .i64 A.x,.bool A.inn,.bool A.esc,.bool A.long,.string A.text,.slice av n cv9,.int .i64 A.code]:Array Value)=cs at *;go_wp2_with fail
 clear c6;go_loopw [6,24] (fun x p wr=>∃ (i:Nat) (ad:Option Addr) (cp:Nat),i≤n∧p=.int .i64 i∧x=.slice ad i cp∧wr.ownsRow W.heap.size 9 1 (.slice ad i cp) i (a_ ((cA A).take i))∧FoH base W D E ⟨rx A,k.s,k.now,k.at'⟩ ca cs (.slice av n cv9) A.F wr) (fun _ p _=>n - (intOf p).toNat)
 case atStart=>exact ⟨0,_,_,Nat.zero_le _,rfl,rfl,World.ownsRow_nil _ _ _ _,uh HF1⟩
 case round =>
  obtain ⟨i,ad,cp,hi,rfl,rfl,hO,hF⟩:=hrel;clear HF1;by_cases hlt:i<n
  ·have d1:(i:Int)<(n:Int):=by omega
   have d2:(0:Int)≤(i:Int):=by omega
   obtain ⟨g,ea,cur,k1,k3⟩:∃ g,av=some ⟨g,0,none⟩∧∃ cur,wr.heap[g]?=some (.cells cur 141)∧∀ j,j<n*2→cur[j]?=(cj A.F)[j]?:=by
    rcases hF.hp with ⟨ad,cp,e,e2⟩ | ⟨g,cp,cur,e,q1,_,q3⟩
    ·rw [e2] at hn;simp at hn;omega
    ·injection e with e _ _;exact ⟨g,e,cur,q1,fun j hj=>q3 j (by rw [hn];exact hj)⟩
   have hi2:i<A.F.length:=by omega
   obtain ⟨x0,x1⟩:=AK k1 (by rw [hn];exact k3) hi2;have hkf:=hk A.F[i] (List.getElem_mem hi2);have HX:Hid ((cA A).take (i+1)=(cA A).take i ++ [gH A.F[i]]):=aa (by
    unfold cA;rw [List.take_add_one,List.getElem?_map,List.getElem?_eq_getElem hi2];rfl)
   have HF:=aa (zA hF hO);clear hF hO k1 k3;subst ea;generalize A.F[i]=f at *;obtain ⟨f1,f2,f3,f4⟩:=hkf;have hts:(co f.text).size=f.text.length:=by unfold co;show f.text.toArray.size=_;simp
   go_upto_region 7 with fail
   refine aI (fun q=>FoH base W D E ⟨rx A,k.s,k.now,k.at'⟩ ca cs (.slice (some ⟨g,0,none⟩) n cv9) A.F q∧q.ownsRow W.heap.size 9 1 (.slice ad i cp) i (a_ ((cA A).take i))∧q.heap[wr.heap.size]?=some (.cells #[.int .i64 (f.kind:Int),.string (co f.text)] 141)) ⟨(uh HF).1.below ((zC _ _).alloc (zD _) _),(uh HF).2.alloc _,zF wr _⟩ ?_;generalize wr.heap.size=N at *;clear HF x0 x1;rintro z ⟨hF,hO,hN⟩;have y0:z.cell? ⟨N,0,none⟩=some (.int .i64 (f.kind:Int)):=by rw [cr hN];rfl
   have HT:=aa hF.dk.tb.get.1;have HF:=aa (zA hF (zA hO hN));clear hF hO hN;go_wp2_with fail
   refine (mm f.kind z (by omega) (by omega) (uh HT)).mono ?_;rintro e z1 ⟨rfl,hb1⟩;have HF1:=aa (zA ((uh HF).1.below hb1) (aP (uh HF).2.1 hb1));have hN1:=(hb1.block N (ge.1 (uh HF).2.2).1).trans (uh HF).2.2;have y1:z1.cell? ⟨N,0,none⟩=some (.int .i64 (f.kind:Int)):=by rw [cr hN1];rfl
   have y2:z1.cell? ⟨N,1,none⟩=some (.string (co f.text)):=by rw [cr hN1];rfl
   clear hb1 HF y0 HT hN1;have hsz:W.heap.size≤z1.heap.size:=(uh HF1).1.od.size;have hTl:((cA A).take i).length=i:=by unfold cA;rw [List.length_take,List.length_map];omega
   by_cases hk1:f.kind=1
   ·have hq:((f.kind:Int) == 1)=true:=by rw [hk1];rfl
    have hk2:(f.kind:Int)=1:=by omega
    have hfo:gH f=bT 1 ++ (⟨#[58]⟩ ++ bb (co f.text)):=by unfold gH;rw [if_pos hk1,hk2]
    rw [hk2] at f4;rw [hfo] at HX;have hxs:=jT (co f.text);have hc:(⟨#[58]⟩ ++ bb (co f.text):ByteArray).size=1+(bb (co f.text)).size:=ByteArray.size_append;clear f2 hfo hk;go_wp2_with fail
    refine (qa (co f.text) z1 (by unfold maxLen;omega)).mono ?_;rintro e z2 ⟨rfl,hb2⟩;have HF2:=aa (zA ((uh HF1).1.below hb2) (aP (uh HF1).2 hb2));have hsz2:W.heap.size≤z2.heap.size:=zE hsz hb2.size;clear hb2 HF1 y1 y2;go_wp2_with (at_builtin;refine dw rfl _ _ rfl W.heap.size (.slice ad i cp) ((cA A).take i) i hTl rfl (uh HF2).2 _ rfl (by omega) hsz2 ?_;rintro v6 w6 ho6 hg6;obtain ⟨a6,c6,rfl⟩:=af ho6)
    rw [← uh HX] at ho6;have HF6:=aa (zA (((uh HF2).1.below ((zC _ _).alloc (zD _) (.cells #[.string (bT 1 ++ (⟨#[58]⟩ ++ bb (co f.text)))] 9))).grown hg6 fun g hg=>by
     obtain ⟨h1,cur,h2⟩:=mA ((uh HF2).2.alloc (.cells #[.string (bT 1 ++ (⟨#[58]⟩ ++ bb (co f.text)))] 9)) g hg;exact ⟨h1,cur,h2⟩) ho6)
    clear hg6 ho6 HF2 hsz2;go_roundw
    case rel=>exact ⟨i+1,a6,c6,by omega,by go_num,rfl,(uh HF6).2,(uh HF6).1⟩
    case measure=>simp [intOf];omega
   ·have hq:((f.kind:Int) == 1)=false:=beq_eq_false_iff_ne.2 (by omega);have hfo:gH f=bT f.kind:=if_neg hk1;rw [hfo] at HX;clear y2;go_wp2_with (at_builtin;refine dw rfl _ _ rfl W.heap.size (.slice ad i cp) ((cA A).take i) i hTl rfl (uh HF1).2 (bT f.kind) rfl (by omega) hsz ?_;rintro v6 w6 ho6 hg6;obtain ⟨a6,c6,rfl⟩:=af ho6)
    rw [← uh HX] at ho6;have HF6:=aa (zA (((uh HF1).1.below ((zC _ _).alloc (zD _) (.cells #[.string (bT f.kind)] 9))).grown hg6 fun g hg=>by
     obtain ⟨h1,cur,h2⟩:=mA ((uh HF1).2.alloc (.cells #[.string (bT f.kind)] 9)) g hg;exact ⟨h1,cur,h2⟩) ho6)
    clear hg6 ho6 HF1 hsz;go_roundw
    case rel=>exact ⟨i+1,a6,c6,by omega,by go_num,rfl,(uh HF6).2,(uh HF6).1⟩
    case measure=>simp [intOf];omega
  ·have e:i=n:=by omega
   subst e;have d1:¬ ((i:Int)<(i:Int)):=by omega
   have hTl:(cA A).length=i:=by unfold cA;rw [List.length_map,hn]
   rw [List.take_of_length_le (by omega)] at hO;have HF:=aa (zA hF hO);clear hF hO;go_wp2_with fail
   refine (vb W.heap.size _ (cA A) i wr hTl (uh HF).2 (by omega) (fun x hx=>by
    unfold cA at hx;obtain ⟨f,hf,rfl⟩:=List.mem_map.1 hx;exact (hk f hf).2.1)).mono ?_
   rintro e z ⟨rfl,hb⟩;have HF1:=aa ((uh HF).1.below hb);clear hb HF;go_wp2_with fail
   go_ret
   exact ⟨rfl,(uh HF1).dk,(uh HF1).od⟩
end
theorem zc (n:Nat) (h:n<16):dv (dg n)=n:=by
 have:n=0∨n=1∨n=2∨n=3∨n=4∨n=5∨n=6∨n=7∨n=8∨n=9∨n=10∨n=11∨n=12∨n=13∨n=14∨n=15:=by omega
 rcases this with rfl | rfl | rfl | rfl | rfl | rfl | rfl | rfl | rfl | rfl | rfl | rfl | rfl | rfl | rfl | rfl<;>rfl
theorem oS:∀ (l:List UInt8) (i:Nat) (h:i<l.length),(eB l)[2*i]?=some (dg (l[i].toNat / 16))∧(eB l)[2*i+1]?=some (dg (l[i].toNat % 16))
 | [],_,h=>absurd h (Nat.not_lt_zero _)
 | c :: l,0,_=>⟨rfl,rfl⟩
 | c :: l,i+1,h=>by
  have:=oS l i (by simpa using h)
  show (dg (c.toNat / 16) :: dg (c.toNat % 16) :: eB l)[2*i+1+1]?=_∧(dg (c.toNat / 16) :: dg (c.toNat % 16) :: eB l)[2*i+1+1+1]?=_
  rw [List.getElem?_cons_succ,List.getElem?_cons_succ,List.getElem?_cons_succ,List.getElem?_cons_succ];exact this
theorem oT {l:List UInt8} {i:Nat} {c:UInt8} (h:l[i]?=some c):ff (co l) i=dv c:=by
 obtain ⟨h1,h2⟩:=List.getElem?_eq_some_iff.1 h;unfold ff;rw [dif_pos (by rw [eJ];exact h1),← h2];rfl
theorem kb {t:ByteArray} (h:t.size≤4000):bB (bb t)=t:=by
 have e:bb t=co (eB t.data.toList):=if_pos h;have hl:=oR t;have hs:(co (eB t.data.toList)).size=2*t.size:=by rw [eJ,gw,hl]
 have key:∀ i (hi:i<t.data.toList.length),ff (co (eB t.data.toList)) (2*i)=t.data.toList[i].toNat / 16∧ff (co (eB t.data.toList)) (2*i+1)=t.data.toList[i].toNat % 16:=by
  intro i hi;obtain ⟨h1,h2⟩:=oS t.data.toList i hi;have hb:=t.data.toList[i].toNat_lt;exact ⟨(oT h1).trans (zc _ (by omega)),(oT h2).trans (zc _ (by omega))⟩
 rw [e,lE (k:=t.size) hs.symm (by omega) ?_]
 ·have h2:nz (co (eB t.data.toList)) t.size=t.data.toList:=List.ext_getElem (by rw [fU,hl]) fun i h1 h2=>by
   simp only [nz,List.getElem_map,List.getElem_range];rw [(key i h2).1,(key i h2).2];apply UInt8.toNat_inj.1
   rw [UInt8.toNat_ofNat'];have:=t.data.toList[i].toNat_lt
   omega
  rw [h2];rfl
 ·intro i hi hs2;rw [mr];have hb:=t.data.toList[i / 2]'(by omega) |>.toNat_lt
  rcases Nat.mod_two_eq_zero_or_one i with h0 | h0
  ·have e2:2*(i / 2)=i:=by omega
   have:=(key (i / 2) (by omega)).1
   rw [e2] at this;omega
  ·have e2:2*(i / 2)+1=i:=by omega
   have:=(key (i / 2) (by omega)).2
   rw [e2] at this;omega
abbrev z0:Ln:=⟨0,0,false,false,false⟩
abbrev dE (st tr du id:Int) (up:Bool) (A B:Ln):En:=⟨300,0,7,true,true,false,300,0,7,true,true,false,st,tr,du,id,0,up,A.m,A.a,A.p,A.c,A.d,B.m,B.a,B.p,B.c,B.d⟩
abbrev c7:Cf:=⟨300,0,7,true,true,false⟩
abbrev xC (m:Nat):Cf:=⟨m,4294967295,0,false,false,false⟩
abbrev zd:ByteArray:=⟨#[79,112,101,110]⟩
abbrev dUp:ByteArray:=⟨#[85,112]⟩
abbrev wz:ByteArray:=⟨#[67,108,111,115,101]⟩
theorem ze {m:Nat} (h:64≤m∧m≤300):iv (xC m)=true:=iq h (by decide) (by decide)
abbrev kf (m:Nat):Op.Pk:=⟨1,9,co (Op.bytes (a7 (xC m)))⟩
abbrev kg:Op.Pk:=⟨2,1,co (Op.bytes (a7 c7))⟩
abbrev lx:Op.Pk:=⟨6,2,⟨#[]⟩⟩
abbrev yh (m:Nat):Op.Pk:=⟨2,9,co (Op.bytes (a7 (xC m)))⟩
theorem km (m:Nat):Op.pok (kf m)=true:=rF (by decide) (by decide) (cT _)
theorem g8:Op.pok kg=true:=rF (by decide) (by decide) (cT _)
theorem mU:Op.pok lx=true:=by kernel_rfl
section
variable {F1 F2:List Op.Opt}
theorem zR {st tr du id:Int} (h1:cC F1=true) (h2:cC F2=true) (h:(al 0 9 st && (al 0 5 tr && ((decide (0≤id) && decide (id≤255)) && ((if gj st=true then al 0 1000000003 du else du == -1) && (false == (st == 9))))))=true):dJ (dE st tr du id false z0 z0) F1 F2=true:=by
 simp only [Bool.and_eq_true] at h;obtain ⟨a1,a2,⟨a3,a4⟩,a5,a6⟩:=h;unfold dJ;dsimp only;rw [h1,h2,a1,a2,a3,a4,a5,a6];kernel_rfl
theorem okU (h1:cC F1=true) (h2:cC F2=true):dJ (dE 9 5 (-1) 1 true (aQ F1) (aQ F2)) F1 F2=true:=by
 unfold dJ;dsimp only;rw [h1,h2,gU,gU];kernel_rfl
theorem jD {e:En} {p:Op.Pk} (he:dJ e F1 F2=true) (hp:Op.pok p=true) (hs:¬ e.st≤1):bn e F1 F2 p 0=aB 0 p e F1 F2:=by
 have hw:(dJ e F1 F2 && al 0 1000000000 0)=true:=by rw [he];kernel_rfl
 unfold bn;rw [if_pos ⟨hw,hp⟩,if_neg hs]
theorem kp {c:Cx} {s:St} {t:ByteArray} {ns:Int} {A:List ByteArray} (h:bO s.e.st t=(ns,A,0)):bj c s t=⟨fm c A ns (A.foldl (fun s a=>bv c a s) s).e,(A.foldl (fun s a=>bv c a s) s).F1,(A.foldl (fun s a=>bv c a s) s).F2,(A.foldl (fun s a=>bv c a s) s).sn,(A.foldl (fun s a=>bv c a s) s).tl,0⟩:=by
 unfold bj;rw [h];rfl
end
theorem AQ:bO 0 zd=(1,[bP],0):=by kernel_rfl
theorem fUp:bO 1 dUp=(6,[mO,mP],0):=by kernel_rfl
theorem zS:bO 9 wz=(4,[bL,mO,mQ],0):=by kernel_rfl
theorem AR:bO 6 (im 6)=(8,[pY],0):=by kernel_rfl
theorem AU:bO 7 (im 6)=(9,[pY,dz],0):=by kernel_rfl
theorem AV:bO 6 (im 8)=(7,[mO],0):=by kernel_rfl
theorem AW:bO 8 (im 8)=(9,[mO,dz],0):=by kernel_rfl
theorem AX:bO 4 (im 11)=(2,[bQ],0):=by kernel_rfl
theorem k1:kC (dE 0 0 (-1) 0 false z0 z0) [] [] zd 0=⟨dE 1 0 (-1) 0 false z0 z0,[],[],[],[bP],0⟩:=by
 have hw:(dJ (dE 0 0 (-1) 0 false z0 z0) [] [] && al 0 1000000000 0)=true:=by rw [zR (by kernel_rfl) (by kernel_rfl) (by kernel_rfl)];kernel_rfl
 unfold kC;rw [if_neg (by decide),if_pos hw,if_neg (by decide),if_pos (by decide),kp AQ];show _=_
 kernel_rfl
theorem k2:kC (dE 1 0 (-1) 0 false z0 z0) [] [] dUp 0=⟨dE 6 4 3 1 false z0 z0,a7 c7,[],[⟨1,1,co (Op.bytes (a7 c7))⟩],[],0⟩:=by
 have hw:(dJ (dE 1 0 (-1) 0 false z0 z0) [] [] && al 0 1000000000 0)=true:=by rw [zR (by kernel_rfl) (by kernel_rfl) (by kernel_rfl)];kernel_rfl
 unfold kC;rw [if_neg (by decide),if_pos hw,if_pos rfl,kp fUp];show _=_
 kernel_rfl
theorem AY {st tr du id:Int} {m:Nat} (hm:64≤m∧m≤300):eX (dE st tr du id false z0 z0) (a7 (xC m))=(2,a7 (xC m)):=by
 obtain ⟨h1,h2,_⟩:=wy (dE st tr du id false z0 z0) (ze hm) (by kernel_rfl);have h0:tD (dR (dE st tr du id false z0 z0)) (dE st tr du id false z0 z0).g2.toNat (dE st tr du id false z0 z0).fl (xC m)=2:=by kernel_rfl
 exact Prod.ext (h1.trans h0) (h2 h0)
theorem k3 {m:Nat} (hm:64≤m∧m≤300):bn (dE 6 4 3 1 false z0 z0) (a7 c7) [] (kf m) 0=⟨dE 8 4 3 1 false z0 z0,a7 c7,a7 (xC m),[yh m],[],0⟩:=by
 rw [jD (zR (cT _) (by kernel_rfl) (by kernel_rfl)) (km m) (by decide)];unfold aB;rw [if_pos rfl,ma (cT _),AY hm];dsimp only;rw [if_pos rfl,if_pos rfl,kp AR];kernel_rfl
theorem k4 {m:Nat}:bn (dE 8 4 3 1 false z0 z0) (a7 c7) (a7 (xC m)) kg 0=⟨dE 9 5 (-1) 1 true (aQ (a7 c7)) (aQ (a7 (xC m))),a7 c7,a7 (xC m),[],[dz],0⟩:=by
 rw [jD (zR (cT _) (cT _) (by kernel_rfl)) g8 (by decide)];unfold aB;rw [if_neg (by decide),if_pos rfl,if_pos ⟨rfl,rfl⟩,kp AW];kernel_rfl
theorem h3:bn (dE 6 4 3 1 false z0 z0) (a7 c7) [] kg 0=⟨dE 7 5 3 1 false z0 z0,a7 c7,[],[],[],0⟩:=by
 rw [jD (zR (cT _) (by kernel_rfl) (by kernel_rfl)) g8 (by decide)];unfold aB;rw [if_neg (by decide),if_pos rfl,if_pos ⟨rfl,rfl⟩,kp AV];kernel_rfl
theorem h4 {m:Nat} (hm:64≤m∧m≤300):bn (dE 7 5 3 1 false z0 z0) (a7 c7) [] (kf m) 0=⟨dE 9 5 (-1) 1 true (aQ (a7 c7)) (aQ (a7 (xC m))),a7 c7,a7 (xC m),[yh m],[dz],0⟩:=by
 rw [jD (zR (cT _) (by kernel_rfl) (by kernel_rfl)) (km m) (by decide)];unfold aB;rw [if_pos rfl,ma (cT _),AY hm];dsimp only;rw [if_pos rfl,if_pos rfl,kp AU];kernel_rfl
theorem k6 {m:Nat}:kC (dE 9 5 (-1) 1 true (aQ (a7 c7)) (aQ (a7 (xC m)))) (a7 c7) (a7 (xC m)) wz 0=⟨dE 4 4 3 2 false z0 z0,a7 c7,a7 (xC m),[⟨5,2,⟨#[]⟩⟩],[bL],0⟩:=by
 have hw:(dJ (dE 9 5 (-1) 1 true (aQ (a7 c7)) (aQ (a7 (xC m)))) (a7 c7) (a7 (xC m)) && al 0 1000000000 0)=true:=by rw [okU (cT _) (cT _)];kernel_rfl
 unfold kC;rw [if_neg (by decide),if_pos hw,if_neg (by decide),if_pos (by decide),kp zS];show _=_
 kernel_rfl
theorem k8 {m:Nat}:bn (dE 4 4 3 2 false z0 z0) (a7 c7) (a7 (xC m)) lx 0=⟨dE 2 4 (-1) 2 false z0 z0,a7 c7,a7 (xC m),[],[bQ],0⟩:=by
 rw [jD (zR (cT _) (cT _) (by kernel_rfl)) mU (by decide)];unfold aB;rw [if_neg (by decide),if_neg (by decide),if_neg (by decide),if_neg (by decide)];show bj _ _ (im 11)=_
 rw [kp AX];kernel_rfl
theorem wA:aQ (a7 c7)=⟨300,0,true,true,false⟩:=oQ (by kernel_rfl)
theorem qT {m:Nat} (hm:64≤m∧m≤300):aQ (a7 (xC m))=⟨m,4294967295,false,false,false⟩:=oQ (ze hm)
theorem zT:eP 300 0 7 true true false=dE 0 0 (-1) 0 false z0 z0:=by kernel_rfl
theorem ixB (l r:List UInt8) (c:UInt8) (h:c ∉ l):Lib.indexByte (l ++ c :: r) c=l.length:=by
 induction l with
 | nil=>show (if c == c then (0:Int) else _)=_;rw [if_pos (beq_self_eq_true c)];rfl
 | cons b l ih =>
  have hb:(b == c)=false:=beq_eq_false_iff_ne.2 fun e=>h (by rw [e];exact List.mem_cons_self)
  have hi:=ih fun hm=>h (List.mem_cons_of_mem _ hm)
  show (if b == c then (0:Int) else if Lib.indexByte (l ++ c :: r) c == -1 then -1 else Lib.indexByte (l ++ c :: r) c+1)=_
  rw [hb,hi,if_neg (by decide),if_neg (by rw [beq_iff_eq];omega),List.length_cons];omega
theorem ixN (l:List UInt8) (c:UInt8) (h:c ∉ l):Lib.indexByte l c=-1:=by
 induction l with
 | nil=>rfl
 | cons b l ih =>
  have hb:(b == c)=false:=beq_eq_false_iff_ne.2 fun e=>h (by rw [e];exact List.mem_cons_self)
  have hi:=ih fun hm=>h (List.mem_cons_of_mem _ hm)
  show (if b == c then (0:Int) else if Lib.indexByte l c == -1 then -1 else Lib.indexByte l c+1)=_
  rw [hb,hi];rfl
theorem AZ (l r:List UInt8) (h:(10:UInt8) ∉ l):Lib.cut (l ++ 10 :: r) [10]=(l,r,true):=by
 unfold Lib.cut;rw [Lib.index_one,ixB l r 10 h,if_pos (by omega),Int.toNat_natCast,List.take_left' rfl];congr 2
 rw [← List.drop_drop,List.drop_left' rfl];rfl
theorem ct0 (y:List UInt8) (h:(32:UInt8) ∉ y) (n:Nat):Lib.countFrom [32] n y=0:=by
 cases n with
 | zero=>rfl
 | succ n=>unfold Lib.countFrom;rw [Lib.index_one,ixN y 32 h];rfl
theorem zf (y:List UInt8) (h:(32:UInt8) ∉ y):Lib.countB (co y) ⟨#[32]⟩=0∧Lib.splitB ⟨#[32]⟩ 0 (Lib.countB (co y) ⟨#[32]⟩) (co y)=[co y]:=by
 have e:Lib.countB (co y) ⟨#[32]⟩=0:=by
  show Lib.countFrom [32] _ (co y).data.toList=0
  rw [kN];exact ct0 y h _
 rw [e];exact ⟨rfl,rfl⟩
theorem A0 (x y:List UInt8) (hx:(32:UInt8) ∉ x) (hy:(32:UInt8) ∉ y):Lib.countB (co (x ++ 32 :: y)) ⟨#[32]⟩=1∧Lib.splitB ⟨#[32]⟩ 0 (Lib.countB (co (x ++ 32 :: y)) ⟨#[32]⟩) (co (x ++ 32 :: y))=[co x,co y]:=by
 have hi:Lib.indexB (co (x ++ 32 :: y)) ⟨#[32]⟩=(x.length:Nat):=by
  show Lib.index (co (x ++ 32 :: y)).data.toList [32]=_
  rw [kN,Lib.index_one,ixB x y 32 hx]
 have hb:(co (x ++ 32 :: y)).extract (x.length+(⟨#[32]⟩:ByteArray).size) (co (x ++ 32 :: y)).size=co y:=by
  apply ByteArray.ext
  apply Array.toList_inj.1
  rw [Lib.extract_to_end,kN,kN];show (x ++ 32 :: y).drop (x.length+1)=y
  rw [← List.drop_drop,List.drop_left' rfl];rfl
 have e:Lib.countB (co (x ++ 32 :: y)) ⟨#[32]⟩=1:=by
  rw [Lib.countB_hit _ _ _ (by decide) hi,hb,(zf y hy).1]
 rw [e];refine ⟨rfl,?_⟩;rw [Lib.splitB_hit _ _ _ _ _ hi,hb];show [_,co y]=_
 congr 1
 apply ByteArray.ext
 apply Array.toList_inj.1
 rw [Lib.extract_from_zero,kN,kN];exact List.take_left' rfl
def bK (L:List (List UInt8)):List UInt8:=L.flatMap fun t=>t ++ [10]
theorem kv (t:List UInt8) (L:List (List UInt8)):bK (t :: L)=t ++ 10 :: bK L:=by
 show (t ++ [10]) ++ bK L=_
 simp
theorem kw (L:List (List UInt8)) (t:List UInt8):bK (L ++ [t])=bK L ++ t ++ [10]:=by
 unfold bK;rw [List.flatMap_append];simp
theorem yi {c:UInt8} (hc:c≠32) (L:List ByteArray) (h:∀ t ∈ L,c ∉ t.data.toList):c ∉ (df L).data.toList:=by
 intro hm;have hm:c ∈ Lib.join (L.map (·.data.toList)) [32]:=by simpa [df] using hm
 cases L with
 | nil=>simp [Lib.join_nil] at hm
 | cons x r =>
  rw [List.map_cons,Lib.join_cons] at hm;rcases List.mem_append.1 hm with hm | hm
  ·exact h x List.mem_cons_self hm
  ·unfold Lib.joinTail at hm;obtain ⟨l,hl,hm⟩:=List.mem_flatten.1 hm;rw [List.map_map] at hl;obtain ⟨t,ht,rfl⟩:=List.mem_map.1 hl;rcases List.mem_append.1 hm with hm | hm
   ·exact hc (by simpa using hm)
   ·exact h t (List.mem_cons_of_mem _ ht) hm
theorem wB (n:Nat) (h:n<16):dg n ∈ Aw:=by
 unfold dg;rw [List.getD_eq_getElem?_getD,List.getElem?_eq_getElem (show n<Aw.length from h)];exact List.getElem_mem _
theorem yj {c:UInt8} {l:List UInt8} (h:c ∈ eB l):c ∈ Aw:=by
 obtain ⟨b,hb,hm⟩:=List.mem_flatMap.1 h;have:=b.toNat_lt
 rcases List.mem_cons.1 hm with rfl | hm
 ·exact wB _ (by omega)
 ·rcases List.mem_cons.1 hm with rfl | hm
  ·exact wB _ (by omega)
  ·exact absurd hm (by simp)
theorem mV {c:UInt8} (hc:c ∉ Aw) (t:ByteArray):c ∉ (bb t).data.toList:=by
 unfold bb;split
 ·rw [kN];exact fun h=>hc (yj h)
 ·intro h;simp at h
end Go.Proofs.YtjebigodbnefiaaGreatDoor
