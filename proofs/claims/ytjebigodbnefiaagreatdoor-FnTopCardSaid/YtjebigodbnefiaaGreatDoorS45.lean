/- LawTp -/
import Derived.Test.YtjebigodbnefiaaGreatDoorS44
set_option maxHeartbeats 16000000
set_option maxRecDepth 100000
namespace Go.Proofs.YtjebigodbnefiaaGreatDoor
open Go.RowKit Go.Proofs.Tryz
theorem Ai (W:World) (b:Nat) (x y:Int) (h:W.heap[b]?=some (.cells #[.int .u8 x,.int .u8 y] 5)):(convert 22 9 (.slice (some ⟨b,0,none⟩) 2 2)).run prog W=.ok (.string (strOfNums [x,y])) W :=
 run_convert_bytes_arg (P:=prog) _ 22 5 underlying22 underlying5 b 0 2 2 [x,y] rfl (fun i hi=>by
  rw [cr h];match i,hi with
  | 0,_=>rfl
  | 1,_=>rfl) 9 underlying9
theorem Ba {m:Nat} (h:m<300):a7 (xC m)=[⟨1,ji m⟩]:=by
 have e:((m:Int) != 300)=true:=by rw [bne_iff_ne];omega
 rw [gY];dsimp only;rw [e];rfl
theorem xo (x:Cf):rD (a7 x)=co (Op.bytes (a7 x)):=fI (bz (cT x))
theorem pk2 {r:Nat} (h:64+r<300):strOfNums [(64+(r:Int)) / 256,(64+(r:Int)) % 256]=ji (64+r):=by
 unfold ji;push_cast
 rw [show (64+(r:Int)) / 256 % 256=(64+(r:Int)) / 256 by omega]
theorem BA:q8 300 0 7 true true false=a7 c7:=by kernel_rfl
theorem Aj {W:World} {g m:Nat} (hm:m<300) (h:W.heap[g]?=some (.cells #[.int .i64 1,.string (ji m)] 27)):HoldsO W (.slice (some ⟨g,0,none⟩) 1 1) (a7 (xC m)):=by
 rw [Ba hm];refine Or.inr ⟨g,1,_,rfl,h,zD 2,fun j hj=>?_⟩;match j,hj with
 | 0,_=>rfl
 | 1,_=>rfl
theorem xt:(prog.info? 9).map (·.size)=some 1:=by kernel_rfl
theorem tP (x0 x1 x2:Value) (W:World):(Instr.field 40 (.agg #[x0,x1,x2]) 0).run prog W=.ok x0 W:=by
 cases hq:prog.info? 9 with
 | none=>have:=xt;rw [hq] at this;cases this
 | some i =>
  have hs:i.size=1:=by have:=xt;rw [hq] at this;simpa using this
  simp [Instr.field,run_underlying underlying40,Go.part,asAgg,sizeOf,typeInfo,hq,hs]
theorem Bb {w:World} {base cp:Nat} {ad:Option Addr} {l:List ByteArray} (h:w.ownsRow base 9 1 (.slice ad 11 cp) 11 (a_ l)):∃ g,ad=some ⟨g,0,none⟩∧∀ i t,l[i]?=some t→i<11→w.cell? ⟨g,i,none⟩=some (.string t):=by
 obtain ⟨_,⟨_,h0⟩ | ⟨g,cap,cur,hv,_,hh,_,_,_,h4⟩⟩:=h
 ·cases h0
 ·cases hv;refine ⟨g,rfl,fun i t hi hlt=>?_⟩;have hc:=iK l i t hi;rw [← h4,List.getElem?_take,if_pos (by omega)] at hc;rw [cr hh,← Array.getElem?_toList];exact hc
theorem xv {m:Nat}:co (xJ m ++ [10])=({ data:=#[117,112,32,51,48,48,32] }:ByteArray) ++ co (Lib.decDigits m) ++ { data:=#[10] }:=by
 unfold xJ;rw [← kE,← kE];rfl
theorem xx {t:ByteArray}:nl t=t ++ { data:=#[10] }:=by
 unfold nl;rw [← kE];rfl
theorem BB (Q:List UInt8):(co ([115,116,97,116,101,32,57] ++ Q)).extract 0 7={ data:=#[115,116,97,116,101,32,57] }:=by
 apply ByteArray.ext
 apply Array.toList_inj.1
 rw [Lib.extract_data,kN];rfl
theorem Bc (Q:List UInt8):7≤(co ([115,116,97,116,101,32,57] ++ Q)).size:=by
 rw [eJ,List.length_append];exact Nat.le_add_right 7 _
theorem Ak (r:Nat) (v:World) (h:64+r≤300):Calls prog 12 #[.int .i64 (64+(r:Int))] v fun e w'=>e=.returned (.string (co (Lib.decDigits (64+r))))∧Below v.heap.size v w':=by
 have hc:=A5 (64+r) v (by omega);rw [show ((64+r:Nat):Int)=64+(r:Int) by omega] at hc;exact hc
theorem tS {m:Nat} (h:m≤300):(co (Lib.decDigits m)).size≤400:=by
 have:=wZ m
 rw [eJ];omega
theorem Al (w:World) (s1:Value) (n1:Nat) (h1:n1≤1048576) (hD1:Dat w w.heap.size s1 n1) (hT:DkT w) :
  Calls prog 3 #[s1] w fun e w'=>e=.returned (.bool true)∧Below w.heap.size w w':=by
 have CA:=aa fun (v:World) (q most:Nat) (hq:q<1000) (hm:most<4294967296) (hv:Below w.heap.size w v)=>Bz v w.heap.size s1 n1 q most hq hm (by unfold maxLen;omega) (hD1.below hv)
 have HT:=aa fun v (hv:Below w.heap.size w v)=>hT.below hv
 obtain ⟨a1,cap1,rfl⟩:=hD1.1;clear hD1 hT;have d0:¬ ((1048576:Int)<(n1:Int)):=by omega
 go_enter func3,ntmps3
 go_wp2_with fail
 refine (uh CA w 0 200 (by decide) (by decide) (zC _ _)).mono ?_;rintro e w' ⟨r,rfl,hr,hw⟩;replace hw:=hw.symm;subst hw;have hm2:64≤64+r∧64+r≤300:=by omega
 have hm3:64+r<300:=by omega
 go_wp2_with fail
 refine (uh CA w 1 2 (by decide) (by decide) (zC _ _)).mono ?_;rintro e w' ⟨q,rfl,hq,hw⟩;replace hw:=hw.symm;subst hw;have HM:=aa (zA hm2 hm3);clear hm2 hr hq;have hbA:=(zC w.heap.size w).alloc (zD _) (.cells #[.int .u8 ((64+(r:Int)) / 256),.int .u8 ((64+(r:Int)) % 256)] 5);have kc:=Ai (w.alloc (.cells #[.int .u8 ((64+(r:Int)) / 256),.int .u8 ((64+(r:Int)) % 256)] 5)) w.heap.size _ _ (zF w _);rw [pk2 hm3] at kc;have HA:=aa hbA;clear hbA;go_wp2_with fail
 clear kc;have hs1:(w.alloc (.cells #[.int .u8 ((64+(r:Int)) / 256),.int .u8 ((64+(r:Int)) % 256)] 5)).heap.size=w.heap.size+1:=Array.size_push _;generalize w.alloc (.cells #[.int .u8 ((64+(r:Int)) / 256),.int .u8 ((64+(r:Int)) % 256)] 5)=y1 at *;have hr2:=zF y1 (.cells #[.int .i64 1,.string (ji (64+r))] 27);rw [hs1] at hr2;refine (cP (.slice (some ⟨w.heap.size+1,0,none⟩) 1 1) (a7 (xC (64+r))) (y1.alloc (.cells #[.int .i64 1,.string (ji (64+r))] 27)) (zE (cm _) (by unfold maxLen;omega)) (Aj hm3 hr2)).mono ?_;rintro e y2 ⟨rfl,hb2⟩;rw [xo];have H2:=aa ((((uh HA).alloc (uh HA).size _).trans (hb2.mono ((uh HA).alloc (uh HA).size _).size)));clear HA hb2 hs1 hr2;go_wp2_with fail
 refine (lq (kf (64+r)) y2).mono ?_;rintro e y3 ⟨rfl,hb3⟩;have H3:=aa ((uh H2).trans (hb3.mono (uh H2).size));clear H2 hb3;go_wp2_with fail
 refine (qa (rE (kf (64+r))) y3 (zE (ph (km _)).1 (by unfold maxLen;omega))).mono ?_;rintro e y4 ⟨rfl,hb4⟩;have H4:=aa ((uh H3).trans (hb4.mono (uh H3).size));have hR:=A7 (64+r);clear H3 hb4;generalize hRe:bb (rE (kf (64+r)))=HR at *;have HRe:=aa hRe;clear hRe;go_wp2_with fail
 refine (q_ 300 0 7 true true false y4).mono ?_;rintro e y5 ⟨ad5,cp5,rfl,ho5,hb5⟩;rw [BA] at ho5 ⊢;have H5:=aa ((uh H4).trans (hb5.mono (uh H4).size));have HO5:=HoldsO.own ho5;clear H4 hb5 ho5;go_wp2_with fail
 refine (cP _ (a7 c7) y5 (zE (cm _) (by unfold maxLen;omega)) HO5).mono ?_;rintro e y6 ⟨rfl,hb6⟩;rw [xo];have H6:=aa ((uh H5).trans (hb6.mono (uh H5).size));clear H5 hb6 HO5;go_wp2_with fail
 refine (lq kg y6).mono ?_;rintro e y7 ⟨rfl,hb7⟩;have H7:=aa ((uh H6).trans (hb7.mono (uh H6).size));clear H6 hb7;go_wp2_with fail
 refine (qa (rE kg) y7 (zE (ph g8).1 (by unfold maxLen;omega))).mono ?_;rintro e y8 ⟨rfl,hb8⟩;have H8:=aa ((uh H7).trans (hb8.mono (uh H7).size));have hK:=A8;clear H7 hb8;generalize hKe:bb (rE kg)=HK at *;have HKe:=aa hKe;clear hKe;by_cases hq1:(q:Int)=1
 have dq:((q:Int) == 1)=true:=by rw [hq1];rfl
 go_upto_region 13 with fail
 generalize hTe:({ data:=#[100,111,32,79,112,101,110,10,100,111,32,85,112,10] }:ByteArray) ++ ({ data:=#[104,101,97,114,32] } ++ HR ++ { data:=#[10] }) ++ ({ data:=#[104,101,97,114,32] } ++ HK ++ { data:=#[10] })=T;have HX:Hid (∃ b,T=mi (64+r) b):=aa ⟨true,by rw [← hTe,← uh HRe,← uh HKe];rfl⟩;clear hTe HRe HKe hR hK dq hq1;rotate_left
 have dq:((q:Int) == 1)=false:=by rw [beq_eq_false_iff_ne];exact hq1
 go_upto_region 13 with fail
 generalize hTe:({ data:=#[100,111,32,79,112,101,110,10,100,111,32,85,112,10] }:ByteArray) ++ ({ data:=#[104,101,97,114,32] } ++ HK ++ { data:=#[10] }) ++ ({ data:=#[104,101,97,114,32] } ++ HR ++ { data:=#[10] })=T;have HX:Hid (∃ b,T=mi (64+r) b):=aa ⟨false,by rw [← hTe,← uh HRe,← uh HKe];rfl⟩;clear hTe HRe HKe hR hK dq hq1
 all_goals
  have hTs:T.size≤1100:=by
   obtain ⟨b,hb⟩:=uh HX;rw [hb];exact sb _ b
  go_wp2_with fail
  refine (lq lx y8).mono ?_;rintro e y9 ⟨rfl,hb9⟩;have H9:=aa ((uh H8).trans (hb9.mono (uh H8).size));clear H8 hb9;go_wp2_with fail
  refine (qa (rE lx) y9 (zE (ph mU).1 (by unfold maxLen;omega))).mono ?_;rintro e y10 ⟨rfl,hb10⟩;have H10:=aa ((uh H9).trans (hb10.mono (uh H9).size));have hE:=A9;clear H9 hb10;generalize hEe:bb (rE lx)=HE at *;go_upto_region 14 with fail
  generalize hLe:T ++ ({ data:=#[108,105,110,101,10,100,111,32,67,108,111,115,101,10,108,105,110,101,10,104,101,97,114,32] }:ByteArray) ++ HE ++ { data:=#[10,102,114,97,109,101,32,54,49,54,50,54,51,10] }=L;have HY:Hid (∃ b,L=po (64+r) b):=by
   obtain ⟨b,hb⟩:=uh HX;exact aa ⟨b,by rw [← hLe,hb,← hEe];rfl⟩
  clear hLe hEe hE hTs HX;have hLs:L.size≤1700:=by
   obtain ⟨b,hb⟩:=uh HY;rw [hb];exact sd _ b
  go_wp2_with fail
  refine (jl (co [97,98,99]) 0 false y10 (by unfold maxLen;decide) (uh HT y10 (uh H10)).u8).mono ?_;rintro e y11 ⟨rfl,hb11⟩;rw [me];have H11:=aa ((uh H10).trans (hb11.mono (uh H10).size));clear H10 hb11;go_wp2_with fail
  refine (qa (co fM) y11 (by unfold maxLen;decide)).mono ?_;rintro e y12 ⟨rfl,hb12⟩;have H12:=aa ((uh H11).trans (hb12.mono (uh H11).size));have hF:=gO;clear H11 hb12;generalize hFe:bb (co fM)=HF at *;have HFe:=aa hFe;clear hFe;go_wp2_with fail
  refine (uh CA y12 2 6 (by decide) (by decide) (uh H12)).mono ?_;rintro e w' ⟨j,rfl,hj,hw⟩;replace hw:=hw.symm;subst hw;have hj6:j<6:=by omega
  have wr0:IntKind.i64.wrap (2*(j:Int))=2*(j:Int):=by rw [IntKind.wrap_i64];omega
  clear hj;go_upto_region 16 with fail
  have wr1:IntKind.i64.wrap (2*(j:Int)+2)=2*(j:Int)+2:=by rw [IntKind.wrap_i64];omega
  have x0:(0:Int)≤2*(j:Int)+2:=by omega
  have x1:2*(j:Int)+2≤14:=by omega
  have tn:(2*(j:Int)+2).toNat=2*j+2:=by omega
  have s1:(HF.extract 0 (2*j+2)).size≤14:=by rw [ByteArray.size_extract];omega
  have s2:(HF.extract (2*j+2) 14).size≤14:=by rw [ByteArray.size_extract];omega
  have c1:¬ 9223372036854775807<L.size+6:=by omega
  have c2:¬ 9223372036854775807<L.size+6+min (2*j+2) 14:=by omega
  have c3:¬ 9223372036854775807<L.size+6+min (2*j+2) 14+7:=by omega
  have c4:¬ 9223372036854775807<L.size+6+min (2*j+2) 14+7+(12 - 2*j):=by omega
  have c5:¬ 9223372036854775807<L.size+6+min (2*j+2) 14+7+(12 - 2*j)+1:=by omega
  refine wp_region_held_drew (S:=fun _=>True) (by kernel_rfl) trivial (fun hHeld=>?_);have H13:Hid (Below w.heap.size w y12.drew):=aa (uh H12).drew;clear H12;generalize y12.drew=y13 at *;refine tq 0 1 2 3 ?_;refine tq 4 5 6 7 ?_;refine tq 8 9 10 11 ?_;refine tt 12 13 ?_;refine t2 14 ?_;refine dn ?_ _;go_upto_region 17 with fail
  generalize hXe:L ++ ({ data:=#[98,121,116,101,115,32] }:ByteArray) ++ HF.extract 0 (2*j+2) ++ { data:=#[10,98,121,116,101,115,32] } ++ HF.extract (2*j+2) 14 ++ { data:=#[10] }=X;obtain ⟨b,hb⟩:=uh HY;have hX:X=ly (gP (64+r) j b):=by
   rw [← hXe,hb,← r_ _ _ _ hj6];unfold pv;rw [uh HFe];rfl
  have hin:X.size≤8000:=by
   rw [hX,← r_ _ _ _ hj6];exact tO _ _ _
  have CR:Hid (Calls prog 11 #[.string X] y13 fun e w'=>e=.returned (.agg #[.string (dX (gP (64+r) j b)),.int .i64 0,.int .i64 0])∧Below y13.heap.size y13 w'):=by
   rw [hX] at hin ⊢;exact aa (wT y13 (uh HT y13 (uh H13)) (gP (64+r) j b) (fun base D=>pl base D _ j b (uh HM).1 hj6) hin (by rw [sv];decide))
  have hos:=xn 0 0 (64+r) j b (uh HM).1 hj6;have hor:=xk (64+r) j b;have hrw:=xl (64+r) j b;rw [← hor] at hrw;have hCW:=aa (Ac (dX (gP (64+r) j b)) · hos);clear hXe hX hin HY hb hos hor c1 c2 c3 c4 c5 s1 s2 x0 x1 tn wr0 wr1 hLs hHeld;generalize dX (gP (64+r) j b)=OT at *;go_wp2_with fail
  refine (uh CR).mono ?_;rintro e y14 ⟨rfl,hb14⟩;have H14:=aa ((uh H13).trans (hb14.mono (uh H13).size));clear H13 hb14 CR;have hfld:=fun W=>tP (.string OT) (.int .i64 0) (.int .i64 0) W
  go_wp2_with fail
  clear hfld;refine (uh hCW y14).mono ?_;rintro e y15 ⟨ad,cp,rfl,how,hb15⟩;have H15:=aa ((uh H14).trans (hb15.mono (uh H14).size));clear H14 hb15 hCW;obtain ⟨q1,q2,q5,Q,hrw⟩:=hrw;rw [hrw] at how ⊢;dsimp only [List.length_cons,List.length_nil,Nat.zero_add,Nat.reduceAdd] at how ⊢;obtain ⟨g,rfl,hcs⟩:=Bb how;have k0:y15.cell? ⟨g,0,none⟩=some (.string { data:=#[115,116,97,116,101,32,49,10] }):=hcs 0 _ rfl (by decide);have k3:=hcs 3 _ rfl (by decide);have k4:=hcs 4 _ rfl (by decide);rw [xv] at k4;have k6:y15.cell? ⟨g,6,none⟩=some (.string { data:=#[100,111,119,110,10] }):=hcs 6 _ rfl (by decide);have k7:y15.cell? ⟨g,7,none⟩=some (.string { data:=#[115,116,97,116,101,32,50,10] }):=hcs 7 _ rfl (by decide);have k8:=hcs 8 _ rfl (by decide);rw [xx,uh HFe] at k8;have k9:y15.cell? ⟨g,9,none⟩=some (.string { data:=#[45,10] }):=hcs 9 _ rfl (by decide);have k10:y15.cell? ⟨g,10,none⟩=some (.string { data:=#[49,58,54,49,54,50,54,51,10] }):=hcs 10 _ rfl (by decide);clear how hrw hcs;have e3:=BB Q;have z3:=Bc Q;generalize co ([115,116,97,116,101,32,57] ++ Q)=T3 at *;have CD:=aa fun v=>Ak r v (uh HM).1.2
  have zU:=tS (uh HM).1.2;generalize co (Lib.decDigits (64+r))=U at *;have z6:(7:Int)≤(T3.size:Int):=by omega
  clear z3;have z4:¬ 9223372036854775807<7+U.size:=by omega
  have z5:¬ 9223372036854775807<7+U.size+1:=by omega
  go_upto_region 18 with fail
  refine wp_region_held_drew (S:=fun v=>v.cell? ⟨g,0,none⟩=some (.string { data:=#[115,116,97,116,101,32,49,10] })∧v.cell? ⟨g,3,none⟩=some (.string T3)∧v.cell? ⟨g,4,none⟩=some (.string ({ data:=#[117,112,32,51,48,48,32] } ++ U ++ { data:=#[10] }))∧v.cell? ⟨g,6,none⟩=some (.string { data:=#[100,111,119,110,10] })∧v.cell? ⟨g,7,none⟩=some (.string { data:=#[115,116,97,116,101,32,50,10] })∧v.cell? ⟨g,8,none⟩=some (.string (HF ++ { data:=#[10] }))∧v.cell? ⟨g,9,none⟩=some (.string { data:=#[45,10] })∧v.cell? ⟨g,10,none⟩=some (.string { data:=#[49,58,54,49,54,50,54,51,10] })) (by kernel_rfl) ⟨k0,k3,k4,k6,k7,k8,k9,k10⟩ (fun hHeld=>?_);have H16:Hid (Below w.heap.size w y15.drew):=aa (uh H15).drew;clear H15 k0 k3 k4 k6 k7 k8 k9 k10;generalize y15.drew=y16 at *;refine tq 0 1 2 3 ?_;refine tq 4 5 6 7 ?_;refine tq 8 9 10 11 ?_;refine tq 12 13 14 15 ?_;refine tq 16 17 18 19 ?_;refine t2 20 ?_;refine r3 21 fun K hK=>?_
  go_simp;refine (uh CD y16).mono ?_;rintro e y17 ⟨rfl,hb17⟩;have H17:=aa ((uh H16).trans (hb17.mono (uh H16).size));have kc:∀ i v,y16.cell? ⟨g,i,none⟩=some v→y17.cell? ⟨g,i,none⟩=some v:=fun i v h=>(hb17.cell (p:=⟨g,i,none⟩) (World.block_lt_of_cell? _ _ h)).trans h
  obtain ⟨k0,k3,k4,k6,k7,k8,k9,k10⟩:=hHeld;have hH2:=zA (kc _ _ k0) (zA (kc _ _ k3) (zA (kc _ _ k4) (zA (kc _ _ k6) (zA (kc _ _ k7) (zA (kc _ _ k8) (zA (kc _ _ k9) (kc _ _ k10)))))));clear k0 k3 k4 k6 k7 k8 k9 k10 kc hb17 H16 CD;go_wp2_with fail
  refine ro hK hH2 fun hHeld=>?_
  clear hK K;refine tq 22 23 24 25 ?_;refine t2 26 ?_;refine tq 27 28 29 30 ?_;refine tt 31 32 ?_;refine tq 33 34 35 36 ?_;refine tt 37 38 ?_;refine tq 39 40 41 42 ?_;refine t2 43 ?_;refine tt 44 45 ?_;refine dn ?_ _;obtain ⟨k0,k3,k4,k6,k7,k8,k9,k10⟩:=hHeld;clear k0 k3 k4 k6 k7 k8;go_wp2_with fail
  go_ret
  exact ⟨rfl,uh H17⟩
theorem Bd (w:World) (s1:Value) (n1:Nat) (hD1:Dat w w.heap.size s1 n1) (hT:DkT w) :
  Calls prog 3 #[s1] w fun e w'=>e=.returned (.bool true)∧Below w.heap.size w w':=by
 by_cases hl1:n1≤1048576
 ·exact Al w s1 n1 hl1 hD1 hT
 ·obtain ⟨a1,cap1,rfl⟩:=hD1.1;clear hD1 hT;have d1:(1048576:Int)<(n1:Int):=by omega
  go_enter func3,ntmps3
  go_wp2_with fail
  go_ret
  exact ⟨rfl,zC _ _⟩
end Go.Proofs.YtjebigodbnefiaaGreatDoor
