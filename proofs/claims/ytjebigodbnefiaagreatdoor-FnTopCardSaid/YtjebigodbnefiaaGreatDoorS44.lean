/- DkR DkX DkY -/
import Derived.Test.YtjebigodbnefiaaGreatDoorS42
import Derived.Test.YtjebigodbnefiaaGreatDoorS43
set_option maxRecDepth 100000
namespace Go.Proofs.YtjebigodbnefiaaGreatDoor
open Go.RowKit Go.Proofs.Tryz
theorem wW (L:List ByteArray) (h:∀ t ∈ L,t≠⟨#[]⟩):Lib.containsS L ⟨#[]⟩=false:=by
 cases e:Lib.containsS L ⟨#[]⟩
 ·rfl
 ·exact absurd rfl (h _ ((Lib.containsS_iff _ _).1 e))
theorem mX {l:List UInt8} (h:l≠[]):co l≠⟨#[]⟩:=fun e=>by
 have:(co l).size=0:=by rw [e];rfl
 rw [eJ] at this;exact h (List.length_eq_zero_iff.1 this)
section
variable {base D:Nat} {k k':Ks} {u:ByteArray}
theorem jM (x y:List UInt8) (hx:(32:UInt8) ∉ x) (hy:(32:UInt8) ∉ y) (hx0:x≠[]) (hy0:y≠[]) (hxc:Lib.containsS em (co x)=true) (hq:((co x).toList == [108,105,110,101])=false) (hs:x.length+y.length≤7900)
  (ho:∀ W ca,DkM base W D k ca→Calls prog 83 #[.pointer (some ⟨D,0,none⟩),.string (co x),.string (co y)] W fun e W'=>e=.returned (.tuple #[.string u,.nilIface])∧∃ cb,DkM base W' D k' cb∧Od D W W') :
  iz base D k (co (x ++ 32 :: y)) u k':=by
 intro W ca h;obtain ⟨w1,w2⟩:=A0 x y hx hy;refine (yQ (P:=fun W'=>∃ cb,DkM base W' D k' cb∧Od D W W') (u:=u) (co (x ++ 32 :: y)) (co x) (co y) false ?_ h.tb.get.2.1 ?_ ?_ ?_ ?_ ?_ ?_ hxc ?_ ?_ h.lt).mono ?_
 ·rw [eJ,List.length_append,List.length_cons];omega
 ·rintro W' ⟨cb,hd,_⟩;exact hd.tb.get.2.2.1
 ·rintro W' W'' ⟨cb,hd,ho'⟩ hb;exact ⟨cb,hd.below hb,ho'.trans (Od.of_below hb)⟩
 ·rw [w2];rfl
 ·intro e;cases e
 ·rw [w1];rfl
 ·exact wW _ fun t ht=>by
   rcases List.mem_cons.1 ht with rfl | ht
   ·exact mX hx0
   ·rcases List.mem_cons.1 ht with rfl | ht
    ·exact mX hy0
    ·exact absurd ht (by simp)
 ·exact hq
 ·intro W' hb;refine (ho W' ca (h.below hb)).mono ?_;rintro e W'' ⟨he,cb,hd,hod⟩;exact ⟨he,⟨cb,hd,(Od.of_below hb).trans hod⟩,hod⟩
 ·rintro e W' ⟨he,cb,hd,hod⟩;exact ⟨he,cb,hd,hod⟩
theorem lh (t:ByteArray):(32:UInt8) ∉ (bb t).data.toList:=mV (by decide) t
structure OkO (o:EO):Prop where
 cd:o.cd=0
 b:EoB o
 st:∃ d:Nat,o.e.st=(d:Int)∧d<10
theorem OkO.dec {o:EO} (h:OkO o):0≤o.e.st∧o.e.st≤100∧(bT o.e.st).size≤10000:=by
 obtain ⟨d,hd,h10⟩:=h.st;rw [hd];refine ⟨by omega,by omega,?_⟩;unfold bT Lib.itoa;rw [if_neg (by omega),Int.toNat_natCast,Lib.decDigits,dif_pos h10];exact Nat.le_add_left 1 9999
theorem mZ (y:List UInt8) (o:EO) (hy:(32:UInt8) ∉ y) (hy0:y≠[]) (hs:y.length≤100) (hd:kC k.s.e k.s.F1 k.s.F2 (co y) k.now=o) (h:OkO o):iz base D k (co ([100,111] ++ 32 :: y)) (df (cL o)) (td k o):=by
 refine jM [100,111] y (by decide) hy (by decide) hy0 (by decide) (by kernel_rfl) (by show 2+_≤_;omega) fun W ca hk=>?_
 have hh:=h.dec;have:=x8 hk (co y) (by rw [hd];exact h.cd) (by rw [hd];exact h.b) (by rw [hd];exact ⟨hh.1,hh.2.1⟩) (by rw [hd];exact hh.2.2)
 rw [hd] at this;exact this
theorem pg {p:Op.Pk} (h:Op.pok p=true):Op.pread (rE p).data.toList=⟨p,0⟩:=by
 have:=qS h [] (by decide)
 rw [List.append_nil] at this;show Op.pread (co (Op.ptold p)).data.toList=_
 rw [kN];exact this
theorem wX {p:Op.Pk} (h:Op.pok p=true):eL k (rE p)=bn k.s.e k.s.F1 k.s.F2 p k.now:=by
 unfold eL;rw [pg h,if_pos rfl]
theorem ph {p:Op.Pk} (h:Op.pok p=true):(rE p).size≤254∧4≤(rE p).size:=by
 have h1:p.data.size≤250:=by unfold Op.pok at h;exact (of_decide_eq_true h).2.2.2.2
 rw [kj h,ByteArray.size_append,eJ];show 4+_≤_∧4≤4+_
 omega
theorem na {t:ByteArray} (h:t.size≤3000) (h0:1≤t.size):(bb t).data.toList≠[]∧(bb t).data.toList.length≤7000∧(bb t).size≤7000:=by
 have e:(bb t).data.toList.length=2*t.size:=by
  unfold bb;rw [if_pos (by omega),kN,gw,oR]
 refine ⟨fun hn=>?_,by omega,by rw [← oR];omega⟩;rw [hn] at e;simp at e;omega
theorem fR (p:Op.Pk) (o:EO) (hp:Op.pok p=true) (hd:bn k.s.e k.s.F1 k.s.F2 p k.now=o) (h:OkO o):iz base D k (co ([104,101,97,114] ++ 32 :: (bb (rE p)).data.toList)) (df (cL o)) (td k o):=by
 have hz:=ph hp;obtain ⟨n0,n1,n2⟩:=na (t:=rE p) (by omega) (by omega);refine jM [104,101,97,114] (bb (rE p)).data.toList (by decide) (lh _) (by decide) n0 (by kernel_rfl) (by kernel_rfl) (by show 4+_≤_;omega) fun W ca hk=>?_
 have hh:=h.dec;have hr:bB (bb (rE p))=rE p:=kb (by omega);have e:eL k (bB (bb (rE p)))=o:=by rw [hr,wX hp,hd]
 have:=te hk (bb (rE p)) (by omega) (by rw [hr,pg hp]) (by rw [e];exact h.cd) (by rw [e];exact h.b) (by rw [e];exact ⟨hh.1,hh.2.1⟩) (by rw [e];exact hh.2.2)
 rw [e] at this;exact this
theorem qX (t:ByteArray) (h0:1≤t.size) (h:t.size≤3000):iz base D k (co ([102,114,97,109,101] ++ 32 :: (bb t).data.toList)) (fe (bb (eH t 0 false))) k:=by
 obtain ⟨n0,n1,n2⟩:=na h h0;refine jM [102,114,97,109,101] (bb t).data.toList (by decide) (lh _) (by decide) n0 (by kernel_rfl) (by kernel_rfl) (by show 5+_≤_;omega) fun W ca hk=>?_
 have:=qk hk (bb t) (by omega)
 rw [kb (show t.size≤4000 by omega)] at this;refine this.mono ?_;rintro e W' ⟨he,hb⟩;exact ⟨he,ca,hk.below hb,Od.of_below hb⟩
theorem li (t:ByteArray) (A:Ans) (h0:1≤t.size) (h:t.size≤3000) (hA:jZ k.d t=A) (hu:k.d.u.size≤8000) (hk:∀ f ∈ A.F,f.kind≤100∧(gH f).size≤10000∧f.text.length≤10000∧(bT f.kind).size≤1000):iz base D k (co ([98,121,116,101,115] ++ 32 :: (bb t).data.toList)) (fe (df (cA A))) ⟨rx A,k.s,k.now,k.at'⟩:=by
 obtain ⟨n0,n1,n2⟩:=na h h0;refine jM [98,121,116,101,115] (bb t).data.toList (by decide) (lh _) (by decide) n0 (by kernel_rfl) (by kernel_rfl) (by show 5+_≤_;omega) fun W ca hd=>?_
 have hr:bB (bb t)=t:=kb (show t.size≤4000 by omega);have:=qW hd (bb t) (by omega) hu (by rw [hr,hA];exact hk)
 rw [hr,hA] at this;refine this.mono ?_;rintro e W' ⟨he,hb,ho⟩;exact ⟨he,ca,hb,ho⟩
theorem mf (hi:0≤k.s.e.i1∧k.s.e.i1≤1000000) (ho:0≤k.s.e.o1∧k.s.e.o1≤1000000) (si:(bT k.s.e.i1).size≤10000) (so:(bT k.s.e.o1).size≤10000):iz base D k (co [108,105,110,101]) (fh k) k:=by
 intro W ca h;obtain ⟨w1,w2⟩:=zf [108,105,110,101] (by decide);refine (yQ (P:=fun W'=>∃ cb,DkM base W' D k cb∧Od D W W') (u:=fh k) (co [108,105,110,101]) (co [108,105,110,101]) (co [108,105,110,101]) true (by decide) h.tb.get.2.1 ?_ ?_ ?_ ?_ ?_ ?_ (by kernel_rfl) ?_ ?_ h.lt).mono ?_
 ·rintro W' ⟨cb,hd,_⟩;exact hd.tb.get.2.2.1
 ·rintro W' W'' ⟨cb,hd,ho'⟩ hb;exact ⟨cb,hd.below hb,ho'.trans (Od.of_below hb)⟩
 ·rw [w2];rfl
 ·intro _;rfl
 ·rw [w1];rfl
 ·exact wW _ fun t ht=>by
   rcases List.mem_cons.1 ht with rfl | ht
   ·exact mX (by decide)
   ·exact absurd ht (by simp)
 ·kernel_rfl
 ·intro W' hb;refine (tc (h.below hb) _ ⟨by omega,by omega⟩ ⟨by omega,by omega⟩ si so).mono ?_;rintro e W'' ⟨he,hb2⟩;exact ⟨he,⟨ca,(h.below hb).below hb2,(Od.of_below hb).trans (Od.of_below hb2)⟩,Od.of_below hb2⟩
 ·rintro e W' ⟨he,cb,hd,hod⟩;exact ⟨he,cb,hd,hod⟩
end
def A6 (y:List UInt8):List UInt8:=[100,111] ++ 32 :: y
def mg (p:Op.Pk):List UInt8:=[104,101,97,114] ++ 32 :: (bb (rE p)).data.toList
def qY:List UInt8:=[102,114,97,109,101] ++ 32 :: (bb (co [97,98,99])).data.toList
def qZ (l:List UInt8):List UInt8:=[98,121,116,101,115] ++ 32 :: (bb (co l)).data.toList
def r9:List UInt8:=[108,105,110,101]
def O1:EO:=⟨dE 1 0 (-1) 0 false z0 z0,[],[],[],[bP],0⟩
def O2:EO:=⟨dE 6 4 3 1 false z0 z0,a7 c7,[],[⟨1,1,co (Op.bytes (a7 c7))⟩],[],0⟩
def An (m:Nat):EO:=⟨dE 8 4 3 1 false z0 z0,a7 c7,a7 (xC m),[yh m],[],0⟩
def Ad (m:Nat):EO:=⟨dE 9 5 (-1) 1 true (aQ (a7 c7)) (aQ (a7 (xC m))),a7 c7,a7 (xC m),[],[dz],0⟩
def Ao:EO:=⟨dE 7 5 3 1 false z0 z0,a7 c7,[],[],[],0⟩
def Ae (m:Nat):EO:=⟨dE 9 5 (-1) 1 true (aQ (a7 c7)) (aQ (a7 (xC m))),a7 c7,a7 (xC m),[yh m],[dz],0⟩
def O6 (m:Nat):EO:=⟨dE 4 4 3 2 false z0 z0,a7 c7,a7 (xC m),[⟨5,2,⟨#[]⟩⟩],[bL],0⟩
def O8 (m:Nat):EO:=⟨dE 2 4 (-1) 2 false z0 z0,a7 c7,a7 (xC m),[],[bQ],0⟩
def Td (o:EO):ByteArray:=df (cL o)
def xJ (m:Nat):List UInt8:=[117,112,32,51,48,48,32] ++ Lib.decDigits m
def pj (m j:Nat):List (ByteArray × ByteArray) :=
 [(co r9,co (xJ m)),(co (A6 [67,108,111,115,101]),Td (O6 m)),(co r9,co [100,111,119,110]),(co (mg lx),Td (O8 m)),(co qY,bb (co fM)),(co (qZ (fM.take (j+1))),co [45]),(co (qZ (fM.drop (j+1))),co [49,58,54,49,54,50,54,51])]
def Af (m:Nat) (b:Bool):List (ByteArray × ByteArray) :=
 if b then [(co (mg (kf m)),Td (An m)),(co (mg kg),Td (Ad m))] else [(co (mg kg),Td Ao),(co (mg (kf m)),Td (Ae m))]
def gP (m j:Nat) (b:Bool):List (ByteArray × ByteArray):=(co (A6 [79,112,101,110]),Td O1) :: (co (A6 [85,112]),Td O2) :: (Af m b ++ pj m j)
theorem iF {l:List UInt8} (h:(10:UInt8) ∉ l):(10:UInt8) ∉ (co l).data.toList:=by rw [kN];exact h
theorem fZ (t:ByteArray):(10:UInt8) ∉ (bb t).data.toList:=mV (by decide) t
theorem d7 {x y:List UInt8} (h:(10:UInt8) ∉ x) (h2:(10:UInt8) ∉ y):(10:UInt8) ∉ (co (x ++ 32 :: y)).data.toList:=by
 refine iF fun hm=>?_
 rcases List.mem_append.1 hm with hm | hm
 ·exact h hm
 ·rcases List.mem_cons.1 hm with e | hm
  ·exact absurd e (by decide)
  ·exact h2 hm
theorem cm (x:Cf):(a7 x).length≤6:=dp _ _ _ _ _ _ _
theorem zg (o:EO) (d:Nat) (hd:d<10) (h0:o.cd=0) (hs:o.e.st=(d:Int)) (h1:o.F1.length≤6) (h2:o.F2.length≤6) (h3:o.sn.length≤2) (h4:o.tl.length≤2):OkO o :=
 ⟨h0,⟨by omega,by omega,by omega,by omega⟩,⟨d,hs,hd⟩⟩
theorem lj:0≤2:=by decide
theorem iG:1≤2:=by decide
theorem Bo:OkO O1:=zg _ 1 (by decide) rfl rfl (Nat.zero_le _) (Nat.zero_le _) lj iG
theorem Bp:OkO O2:=zg _ 6 (by decide) rfl rfl (cm _) (Nat.zero_le _) iG lj
theorem Bq:OkO Ao:=zg _ 7 (by decide) rfl rfl (cm _) (Nat.zero_le _) lj lj
section
variable (m:Nat)
theorem Br:OkO (An m):=zg _ 8 (by decide) rfl rfl (cm _) (cm _) iG lj
theorem Bs:OkO (Ae m):=zg _ 9 (by decide) rfl rfl (cm _) (cm _) iG iG
theorem Bt:OkO (Ad m):=zg _ 9 (by decide) rfl rfl (cm _) (cm _) lj iG
theorem Bu:OkO (O6 m):=zg _ 4 (by decide) rfl rfl (cm _) (cm _) iG iG
theorem Bv:OkO (O8 m):=zg _ 2 (by decide) rfl rfl (cm _) (cm _) lj iG
end
theorem xe (n:Nat) (h:n<1000):(bT (n:Int)).size≤1000:=by
 have:=xi n h
 unfold bT Lib.itoa;rw [if_neg (by omega),Int.toNat_natCast];show (co (Lib.decDigits n)).size≤_
 rw [eJ];omega
theorem kx (o:EO) (d:Nat) (hd:d<10) (hs:o.e.st=(d:Int)) (hn:o.sn.length≤2):(Td o).size≤20000:=zE (rI o d hd hs hn).2 (by decide)
theorem mh (base D m j:Nat) (hm:64≤m∧m≤300) (hj:j<6):Runs base D ⟨dN,⟨dE 9 5 (-1) 1 true (aQ (a7 c7)) (aQ (a7 (xC m))),a7 c7,a7 (xC m),[]⟩,0,4⟩ (pj m j):=by
 have hup:fh ⟨dN,⟨dE 9 5 (-1) 1 true (aQ (a7 c7)) (aQ (a7 (xC m))),a7 c7,a7 (xC m),[]⟩,0,4⟩=co (xJ m):=ym _ m rfl (by rw [wA];rfl) (by rw [qT hm]);unfold pj;refine Runs.cons (k':=⟨dN,⟨dE 9 5 (-1) 1 true (aQ (a7 c7)) (aQ (a7 (xC m))),a7 c7,a7 (xC m),[]⟩,0,4⟩) ?_ rfl (iF (by decide)) ?_ ?_
 ·rw [← hup];refine mf ?_ ?_ ?_ ?_
  ·rw [wA];exact ⟨Int.natCast_nonneg 300,Int.ofNat_le.2 (show 300≤1000000 by decide)⟩
  ·rw [qT hm];exact ⟨Int.natCast_nonneg m,Int.ofNat_le.2 (show m≤1000000 by omega)⟩
  ·rw [wA];exact zE (xe 300 (by decide)) (by decide)
  ·rw [qT hm];exact zE (xe m (by omega)) (by decide)
 ·have:=xi m (by omega)
  rw [eJ];unfold xJ;rw [List.length_append];show 7+_≤_;omega
 refine Runs.cons (mZ [67,108,111,115,101] (O6 m) (by decide) (by decide) (by decide) k6 (Bu m)) rfl (d7 (by decide) (by decide)) (kx (O6 m) 4 (by decide) rfl iG) ?_;refine Runs.cons (k':=⟨dN,⟨(O6 m).e,(O6 m).F1,(O6 m).F2,[]⟩,0,6⟩) ?_ rfl (iF (by decide)) (by decide) ?_
 ·have h:=mf (base:=base) (D:=D) (k:=⟨dN,⟨(O6 m).e,(O6 m).F1,(O6 m).F2,[]⟩,0,6⟩) ⟨Int.natCast_nonneg 0,Int.ofNat_le.2 (show 0≤1000000 by decide)⟩ ⟨Int.natCast_nonneg 0,Int.ofNat_le.2 (show 0≤1000000 by decide)⟩ (zE (xe 0 (by decide)) (by decide)) (zE (xe 0 (by decide)) (by decide));rw [tN _ rfl] at h;exact h
 refine Runs.cons (fR lx (O8 m) mU k8 (Bv m)) rfl (d7 (by decide) (fZ _)) (kx (O8 m) 2 (by decide) rfl lj) ?_;refine Runs.cons (k':=⟨dN,⟨(O8 m).e,(O8 m).F1,(O8 m).F2,[]⟩,0,8⟩) ?_ rfl (d7 (by decide) (fZ _)) (by have:=gO;omega) ?_
 ·have h:=qX (base:=base) (D:=D) (k:=⟨dN,⟨(O8 m).e,(O8 m).F1,(O8 m).F2,[]⟩,0,8⟩) (co [97,98,99]) (by decide) (by decide);rw [me,Aa] at h;exact h
 have hj1:1≤(co (fM.take (j+1))).size∧(co (fM.take (j+1))).size≤3000:=by rw [eJ,List.length_take];show 1≤min _ 7∧min _ 7≤_;omega
 have hj2:1≤(co (fM.drop (j+1))).size∧(co (fM.drop (j+1))).size≤3000:=by rw [eJ,List.length_drop];show 1≤7 - _∧7 - _≤_;omega
 refine Runs.cons (k':=⟨dI ((fM.take (j+1)).drop 1),⟨(O8 m).e,(O8 m).F1,(O8 m).F2,[]⟩,0,9⟩) ?_ rfl (d7 (by decide) (fZ _)) (by decide) ?_
 ·have h:=li (base:=base) (D:=D) (k:=⟨dN,⟨(O8 m).e,(O8 m).F1,(O8 m).F2,[]⟩,0,9⟩) (co (fM.take (j+1))) _ hj1.1 hj1.2 (A3 j hj) (Nat.zero_le _) (fun f hf=>by cases hf);rw [z_] at h;exact h
 refine Runs.cons (k':=⟨dI [],⟨(O8 m).e,(O8 m).F1,(O8 m).F2,[]⟩,0,10⟩) ?_ rfl (d7 (by decide) (fZ _)) (by decide) (Runs.nil _);have h:=li (base:=base) (D:=D) (k:=⟨dI ((fM.take (j+1)).drop 1),⟨(O8 m).e,(O8 m).F1,(O8 m).F2,[]⟩,0,10⟩) (co (fM.drop (j+1))) _ hj2.1 hj2.2 (A4 j hj) (by rw [eJ,List.length_drop,List.length_take];omega) (fun f hf=>by
  have:f=⟨1,[97,98,99]⟩:=by simpa using hf
  subst this;exact ⟨by decide,Nat.le_of_ble_eq_true (by kernel_rfl),by decide,zE (xe 1 (by decide)) (by decide)⟩)
 rw [z8] at h;exact h
theorem pl (base D m j:Nat) (b:Bool) (hm:64≤m∧m≤300) (hj:j<6):Runs base D A1 (gP m j b):=by
 have e0:A1=⟨dN,⟨dE 0 0 (-1) 0 false z0 z0,[],[],[]⟩,0,0⟩:=by unfold A1;rw [zT]
 rw [e0];unfold gP;refine Runs.cons (mZ [79,112,101,110] O1 (by decide) (by decide) (by decide) k1 Bo) rfl (d7 (by decide) (by decide)) (kx O1 1 (by decide) rfl (by decide)) ?_;refine Runs.cons (mZ [85,112] O2 (by decide) (by decide) (by decide) k2 Bp) rfl (d7 (by decide) (by decide)) (kx O2 6 (by decide) rfl (by decide)) ?_;cases b
 ·refine Runs.cons (fR kg Ao g8 h3 Bq) rfl (d7 (by decide) (fZ _)) (kx Ao 7 (by decide) rfl (by decide)) ?_;refine Runs.cons (fR (kf m) (Ae m) (km m) (h4 hm) (Bs m)) rfl (d7 (by decide) (fZ _)) (kx (Ae m) 9 (by decide) rfl iG) ?_;exact mh base D m j hm hj
 ·refine Runs.cons (fR (kf m) (An m) (km m) (k3 hm) (Br m)) rfl (d7 (by decide) (fZ _)) (kx (An m) 8 (by decide) rfl iG) ?_;refine Runs.cons (fR kg (Ad m) g8 k4 (Bt m)) rfl (d7 (by decide) (fZ _)) (kx (Ad m) 9 (by decide) rfl lj) ?_;exact mh base D m j hm hj
def xf (m:Nat):ByteArray:=co [104,101,97,114,32] ++ bb (rE (kf m)) ++ co [10]
def xh:ByteArray:=co [104,101,97,114,32] ++ bb (rE kg) ++ co [10]
def mi (m:Nat) (b:Bool):ByteArray:=if b then co [100,111,32,79,112,101,110,10,100,111,32,85,112,10] ++ xf m ++ xh else co [100,111,32,79,112,101,110,10,100,111,32,85,112,10] ++ xh ++ xf m
def po (m:Nat) (b:Bool):ByteArray:=mi m b ++ co [108,105,110,101,10,100,111,32,67,108,111,115,101,10,108,105,110,101,10,104,101,97,114,32] ++ bb (rE lx) ++ co [10,102,114,97,109,101,32,54,49,54,50,54,51,10]
def pv (m j:Nat) (b:Bool):ByteArray:=po m b ++ co [98,121,116,101,115,32] ++ (bb (co fM)).extract 0 (2*j+2) ++ co [10,98,121,116,101,115,32] ++ (bb (co fM)).extract (2*j+2) 14 ++ co [10]
theorem Ag {a b:ByteArray} (h:a.data.toList=b.data.toList):a=b:=ByteArray.ext (Array.toList_inj.1 h)
theorem r_ (m j:Nat) (b:Bool) (hj:j<6):pv m j b=ly (gP m j b):=by
 have e:(bb (co [97,98,99])).data.toList=[54,49,54,50,54,51]:=by rw [yl,kN]
 unfold pv;rw [tL j hj,wV j hj];refine Ag ?_;unfold ly gP pj po mi Af xf xh mg qZ;generalize bb (rE (kf m))=H1;generalize bb (rE kg)=H2;generalize bb (rE lx)=H3;generalize bb (co (fM.take (j+1)))=H4;generalize bb (co (fM.drop (j+1)))=H5;cases b
 ·simp [kN,bK,A6,r9,qY,e]
 ·simp [kN,bK,A6,r9,qY,e]
theorem nc {p:Op.Pk} (hp:Op.pok p=true):(bb (rE p)).size≤508:=by
 have h:=ph hp;unfold bb;rw [if_pos (by omega),eJ,gw,oR];omega
theorem A7 (m:Nat):(bb (rE (kf m))).size≤508:=nc (km m)
theorem A8:(bb (rE kg)).size≤508:=nc g8
theorem A9:(bb (rE lx)).size≤508:=nc mU
theorem yo (m:Nat):(xf m).size≤520:=by
 have:=A7 m
 unfold xf;rw [ByteArray.size_append,ByteArray.size_append,eJ,eJ];show 5+_+1≤_
 omega
theorem yL:xh.size≤520:=by
 have:=A8
 unfold xh;rw [ByteArray.size_append,ByteArray.size_append,eJ,eJ];show 5+_+1≤_
 omega
theorem sb (m:Nat) (b:Bool):(mi m b).size≤1100:=by
 have h1:=yo m;have h2:=yL;unfold mi;split
 ·rw [ByteArray.size_append,ByteArray.size_append,eJ];show 14+_+_≤_
  omega
 ·rw [ByteArray.size_append,ByteArray.size_append,eJ];show 14+_+_≤_
  omega
theorem sd (m:Nat) (b:Bool):(po m b).size≤1700:=by
 have h1:=sb m b;have h2:=A9;unfold po;rw [ByteArray.size_append,ByteArray.size_append,ByteArray.size_append,eJ,eJ];show _+24+_+14≤_
 omega
theorem xj (x y:Nat):((bb (co fM)).extract x y).size≤14:=by
 have:=gO
 rw [ByteArray.size_extract];omega
theorem tO (m j:Nat) (b:Bool):(pv m j b).size≤8000:=by
 have h1:=sd m b;have h2:=xj 0 (2*j+2);have h3:=xj (2*j+2) 14;unfold pv;generalize (bb (co fM)).extract 0 (2*j+2)=x at *;generalize (bb (co fM)).extract (2*j+2) 14=y at *;rw [ByteArray.size_append,ByteArray.size_append,ByteArray.size_append,ByteArray.size_append,ByteArray.size_append,eJ,eJ,eJ];simp only [List.length_cons,List.length_nil];omega
theorem sv (m j:Nat) (b:Bool):(gP m j b).length=11:=by cases b<;>rfl
theorem Bw:Td O1=co [115,116,97,116,101,32,49]:=jI 1 (by decide) O1 rfl
theorem Bx (m:Nat):Td (O8 m)=co [115,116,97,116,101,32,50]:=jI 2 (by decide) (O8 m) rfl
theorem td9 (o:EO) (h:o.e.st=((9:Nat):Int)):∃ X,Td o=co ([115,116,97,116,101,32,57] ++ X):=⟨_,jI 9 (by decide) o h⟩
theorem kD (o:EO) (d:Nat) (hd:d<10) (hs:o.e.st=(d:Int)) (hn:o.sn.length≤2):(10:UInt8) ∉ (Td o).data.toList:=(rI o d hd hs hn).1
theorem A_ (m:Nat):(10:UInt8) ∉ xJ m:=by
 unfold xJ;intro h;rcases List.mem_append.1 h with h | h
 ·exact absurd h (by decide)
 ·exact Ab m h
theorem Ah (m j:Nat) (b:Bool):∀ t ∈ (gP m j b).map (fun x=>x.2.data.toList),(10:UInt8) ∉ t:=by
 have a1:=kD O1 1 (by decide) rfl (by decide);have a2:=kD O2 6 (by decide) rfl (by decide);have a3:=kD (An m) 8 (by decide) rfl iG;have a4:=kD (Ad m) 9 (by decide) rfl lj;have b3:=kD Ao 7 (by decide) rfl (by decide);have b4:=kD (Ae m) 9 (by decide) rfl iG;have a6:=kD (O6 m) 4 (by decide) rfl iG;have a8:=kD (O8 m) 2 (by decide) rfl lj;have u:=iF (A_ m);have f:=fZ (co fM);have z1:(10:UInt8) ∉ (co [100,111,119,110]).data.toList:=iF (by decide);have z2:(10:UInt8) ∉ (co [45]).data.toList:=iF (by decide);have z3:(10:UInt8) ∉ (co [49,58,54,49,54,50,54,51]).data.toList:=iF (by decide);intro t ht;unfold gP Af pj at ht;cases b
 ·simp only [Bool.false_eq_true,if_false,List.cons_append,List.nil_append,List.map_cons,List.map_nil,List.mem_cons,List.not_mem_nil,or_false] at ht;rcases ht with rfl | rfl | rfl | rfl | rfl | rfl | rfl | rfl | rfl | rfl | rfl<;>assumption
 ·simp only [if_true,List.cons_append,List.nil_append,List.map_cons,List.map_nil,List.mem_cons,List.not_mem_nil,or_false] at ht;rcases ht with rfl | rfl | rfl | rfl | rfl | rfl | rfl | rfl | rfl | rfl | rfl<;>assumption
def nl (t:ByteArray):ByteArray:=co (t.data.toList ++ [10])
theorem xk (m j:Nat) (b:Bool):(jR (dX (gP m j b)).data.toList (dX (gP m j b)).size).1=(gP m j b).map fun x=>nl x.2:=by
 have h:=xb _ (Ah m j b);unfold dX;rw [kN,eJ,h];dsimp only;rw [List.map_map];rfl
theorem xl (m j:Nat) (b:Bool):∃ r1 r2 r5 X,(gP m j b).map (fun x=>nl x.2)=[co [115,116,97,116,101,32,49,10],r1,r2,co ([115,116,97,116,101,32,57] ++ X),co (xJ m ++ [10]),r5,co [100,111,119,110,10],co [115,116,97,116,101,32,50,10],nl (bb (co fM)),co [45,10],co [49,58,54,49,54,50,54,51,10]]:=by
 have h0:nl (Td O1)=co [115,116,97,116,101,32,49,10]:=by rw [Bw];rfl
 have h8:nl (Td (O8 m))=co [115,116,97,116,101,32,50,10]:=by rw [Bx];rfl
 have hu:nl (co (xJ m))=co (xJ m ++ [10]):=by unfold nl;rw [kN]
 cases b
 ·obtain ⟨X,hX⟩:=td9 (Ae m) rfl;have hx:nl (Td (Ae m))=co ([115,116,97,116,101,32,57] ++ (X ++ [10])):=by unfold nl;rw [hX,kN,List.append_assoc]
  refine ⟨nl (Td O2),nl (Td Ao),nl (Td (O6 m)),X ++ [10],?_⟩;rw [← h0,← h8,← hx,← hu];rfl
 ·obtain ⟨X,hX⟩:=td9 (Ad m) rfl;have hx:nl (Td (Ad m))=co ([115,116,97,116,101,32,57] ++ (X ++ [10])):=by unfold nl;rw [hX,kN,List.append_assoc]
  refine ⟨nl (Td O2),nl (Td (An m)),nl (Td (O6 m)),X ++ [10],?_⟩;rw [← h0,← h8,← hx,← hu];rfl
theorem xn (base D m j:Nat) (b:Bool) (hm:64≤m∧m≤300) (hj:j<6):(dX (gP m j b)).size≤900000:=by
 have h:=mc (pl base D m j b hm hj) 11;rw [List.take_of_length_le (by rw [sv];exact zD _)] at h;omega
end Go.Proofs.YtjebigodbnefiaaGreatDoor
