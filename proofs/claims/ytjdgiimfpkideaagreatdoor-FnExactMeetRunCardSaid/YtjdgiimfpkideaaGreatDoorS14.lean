/- CfSp -/
import Derived.Test.YtjdgiimfpkideaaGreatDoorS12
import Derived.Test.YtjdgiimfpkideaaGreatDoorS06
set_option maxHeartbeats 8000000
set_option maxRecDepth 100000
namespace Go.Proofs.YtjdgiimfpkideaaGreatDoor
open Go.RowKit Go.Proofs.Tryz
structure CfQ (w:World) (x:Cf) (q:World):Prop where
 x:q.heap[w.heap.size]?=some (.cells (dr x) 24)
 r:q.heap[w.heap.size+1]?=some (.cells #[.int .i64 0,.int .i64 0,.int .i64 0,.bool false,.bool false,.bool false] 24)
 b:Below w.heap.size w q
theorem CfQ.step {w:World} {x:Cf} {q q':World} (h:CfQ w x q) (hb:Below q.heap.size q q'):CfQ w x q' :=
 ⟨(hb.block _ (ge.1 h.x).1).trans h.x,(hb.block _ (ge.1 h.r).1).trans h.r,h.b.trans (hb.mono h.b.size)⟩
theorem CfQ.put {w:World} {x y:Cf} {q:World} (h:CfQ w x q) (i:Nat) (v:Value) (hy:(dr x).setIfInBounds i v=dr y):CfQ w y (q.setCell ⟨w.heap.size,i,none⟩ v) :=
 ⟨by rw [← hy];exact zH _ _ i _ _ v h.x,(Below.heap_setCell _ _ _ _ (by simp)).trans h.r,h.b.setCell (p:=⟨w.heap.size,i,none⟩) (zD _) _⟩
theorem sW (x:Cf) (n:Nat):aD 7 x n=x:=by unfold aD;rw [if_neg (by decide),if_neg (by decide),if_neg (by decide),if_neg (by decide)]
theorem sX (x:Cf) (n:Nat):aD 8 x n=x:=by unfold aD;rw [if_neg (by decide),if_neg (by decide),if_neg (by decide),if_neg (by decide)]
theorem n6 (x:Cf) (n:Nat):aD 9 x n={ x with d:=x.d && ((n:Int) != 2) }:=by unfold aD;rw [if_neg (by decide),if_neg (by decide),if_neg (by decide),if_pos rfl]
theorem qI {k:Int} (h1:k≠1) (h2:k≠2) (h5:k≠5) (h9:k≠9) (x:Cf) (n:Nat):aD k x n=x:=by unfold aD;rw [if_neg h1,if_neg h2,if_neg h5,if_neg h9]
theorem dD (x:Cf):an x x=x:=ite_self _
theorem nd {x:Cf} {o:Op.Opt} (h:iv x=true):iv (fN x o)=true:=by
 unfold fN an;split
 ·split
  ·next h2=>exact h2
  ·exact h
 ·exact h
theorem gK {x:Cf} (h:iv x=true) (F:List Op.Opt):iv (bF x F)=true:=by
 unfold bF;induction F generalizing x with
 | nil=>exact h
 | cons o F ih=>exact ih (nd h)
theorem sY {x:Cf} (h:iv x=true):al 64 300 (x.m:Int)=true∧al 0 4294967295 (x.a:Int)=true∧al 0 4294967295 (x.g:Int)=true:=by
 unfold iv aK at h;rw [Bool.and_eq_true,Bool.and_eq_true] at h;exact ⟨h.1,h.2.1,h.2.2⟩
theorem jz {n:Nat} (h:n<4294967296):al 0 4294967295 (n:Int)=true:=by
 unfold al;rw [Bool.and_eq_true];exact ⟨decide_eq_true (by omega),decide_eq_true (by omega)⟩
theorem n_ (t:ByteArray) (h:t.size=1):(((ax t.data.toList:Nat):Int) == 2)=(t.toList == [2]):=by
 obtain ⟨c,hc⟩:∃ c,t.data.toList=[c]:=by
  have:t.data.toList.length=1:=by rw [Array.length_toList];exact h
  exact List.length_eq_one_iff.1 this
 rw [ByteArray.toList_eq,hc];have h4:ax [c]=c.toNat:=by simp [ax]
 rw [h4];cases hq:((c.toNat:Int) == 2)
 ·symm
  rw [beq_eq_false_iff_ne];intro e;cases e;cases hq
 ·have:c.toNat=2:=by have:=eq_of_beq hq;omega
  have:c=2:=by
   apply UInt8.toNat_inj.1
   exact this
  subst this;rfl
theorem qJ (x:Cf) (v:Value) (F:List Op.Opt) (w:World) (hx:iv x=true) (hr:Op.right F=true) (h:HoldsO w v F) :
  Calls prog 110 #[.agg (dr x),v] w fun e w'=>e=.returned (.agg (dr (bF x F)))∧Below w.heap.size w w':=by
 have hFl:=Op.right_len hr;have C0:=aa fun W=>dO (x.m:Int) x.a x.g x.p x.c x.d W
 have C1:=aa fun W (hb:Below w.heap.size w W)=>cz v F W (by unfold maxLen;omega) (h.below hb rfl)
 rw [show aK (x.m:Int) x.a x.g=true from hx] at C0;rw [hr] at C1;have HFO:=aa (Op.right_all hr);have HAT:=aa fun i hi=>h.at i hi
 have HOK:=aa hx;obtain ⟨ad,cp,rfl⟩:=h.form;obtain ⟨n,hn⟩:∃ n,F.length=n:=⟨_,rfl⟩;obtain ⟨_,hA,hR,hb⟩:=br w (.cells (dr x) 24) (.cells #[.int .i64 0,.int .i64 0,.int .i64 0,.bool false,.bool false,.bool false] 24);have H0:=aa (zA hA (zA hR hb));clear h hr hA hR hb hx;have HTL:Hid (F.take n=F):=aa (List.take_of_length_le (by omega));obtain ⟨R,hR⟩:∃ R,bF x F=R:=⟨_,rfl⟩;rw [hR];have HR:=aa hR;clear hR;have hx0:bF x (F.take 0)=x:=rfl;rw [hn] at C1 ⊢;go_enter func110,ntmps110
 go_wp2_with fail
 refine (uh C0 _).mono ?_;rintro e w1 ⟨rfl,hb1⟩;have hA1:=(hb1.block w.heap.size (by simp;omega)).trans (uh H0).1;have hR1:=(hb1.block (w.heap.size+1) (by simp)).trans (uh H0).2.1;have hB1:=(uh H0).2.2.trans (hb1.mono (uh H0).2.2.size);have H1:=aa (zA hA1 (zA hR1 hB1));clear hA1 hR1 hB1 hb1 H0 C0;go_wp2_with fail
 refine (uh C1 _ (uh H1).2.2).mono ?_;rintro e w2 ⟨rfl,hb2⟩;have hI:CfQ w (bF x (F.take 0)) w2:=by
  rw [hx0];exact ⟨(hb2.block w.heap.size (ge.1 (uh H1).1).1).trans (uh H1).1,(hb2.block (w.heap.size+1) (ge.1 (uh H1).2.1).1).trans (uh H1).2.1,(uh H1).2.2.trans (hb2.mono (uh H1).2.2.size)⟩
 have HI:=aa hI;clear hI hb2 H1 C1 hx0;go_wp2_with fail
 go_loopw [5] (fun y wr=>∃ i:Nat,i≤n∧y=.int .i64 i∧CfQ w (bF x (F.take i)) wr) (fun y _=>n - (intOf y).toNat)
 case atStart=>exact ⟨0,Nat.zero_le _,rfl,uh HI⟩
 case round =>
  obtain ⟨i,hi,rfl,hS⟩:=hrel;clear HI;by_cases hlt:i<n
  ·have d1:(i:Int)<(n:Int):=by omega
   have d0:(0:Int)≤(i:Int):=by omega
   obtain ⟨g,⟨cp2,e2⟩,hgl,k0,k1⟩:=uh HAT i (by omega);cases e2;replace k0:=(hS.b.cell (p:=⟨g,i*2,none⟩) hgl).trans k0;replace k1:=(hS.b.cell (p:=⟨g,i*2+1,none⟩) hgl).trans k1;have HSN:=aa (jw x F i (by omega));have hok:=uh HFO _ (List.getElem_mem (show i<F.length by omega));have hyok:=gK (uh HOK) (F.take i);generalize F[i]'(by omega)=o at *;obtain ⟨kd,dt⟩:=o;dsimp only at k0 k1;generalize bF x (F.take i)=y at *;have hds:dt.size≤20:=by unfold Op.ok at hok;have:=of_decide_eq_true hok;exact this.2.2
   have HS:=aa hS;clear hS HAT HFO hok HOK;go_upto_region 7 with fail
   refine ab (fun q=>CfQ w y q∧q.heap[wr.heap.size]?=some (.cells #[.int .i64 kd,.string dt] 105))
    ⟨(uh HS).step ((zC _ _).alloc (zD _) _),zF wr _⟩ ?_
   rintro q1 ⟨hS1,hO1⟩;generalize wr.heap.size=N1 at *;obtain ⟨c0,c1,_,_⟩:=av hO1;obtain ⟨m0,m1,m2,m3,m4,m5⟩:=aJ hS1.x;obtain ⟨f0,f1,f2,f3,f4,f5⟩:=eh hS1.x;have HV1:=aa hS1;clear hO1 HS k0 k1 hS1;have C2:=aa fun W=>iz dt 2 W hds (by decide)
   have C4:=aa fun W=>iz dt 4 W hds (by decide)
   have CI:=aa fun y W=>dl y 64 300 W
   go_wp2_with fail
   refine (uh C2 _).mono ?_;rintro e w2' ⟨rfl,hw2⟩;replace hw2:=hw2.symm;subst hw2;go_wp2_with fail
   refine (uh C4 _).mono ?_;rintro e w3 ⟨rfl,hw3⟩;replace hw3:=hw3.symm;subst hw3;clear C2 C4;unfold fN at HSN;dsimp only at HSN;obtain ⟨y1,y2,y3⟩:=sY hyok;by_cases hk1:kd=1
   ·subst hk1;by_cases hs:dt.size=2
    ·rw [if_pos (by rw [hs];rfl)] at HSN;have g2:mE dt 2=ax dt.data.toList:=if_pos hs;rw [g2,decide_eq_true hs];unfold aD at HSN;rw [if_pos rfl] at HSN;generalize ax dt.data.toList=nx at *;have CI2:=aa fun W=>dl (nx:Int) 64 300 W
     clear CI;unfold an at HSN;cases hw:al 64 300 (nx:Int)
     ·rw [if_neg (by unfold iv aK;rw [hw,Bool.false_and];decide)] at HSN;rw [hw] at CI2;go_wp2_with (first | (go_at_call 48;refine (uh CI2 _).mono ?_;rintro e w4 ⟨rfl,hw4⟩;replace hw4:=hw4.symm;subst hw4))
      go_roundw
      case rel=>exact ⟨i+1,by omega,by go_num,by rw [uh HSN];exact uh HV1⟩
      case measure=>simp [intOf];omega
     ·rw [if_pos (by unfold iv aK;rw [hw,y2,y3];rfl)] at HSN;rw [hw] at CI2;go_wp2_with (first | (go_at_call 48;refine (uh CI2 _).mono ?_;rintro e w4 ⟨rfl,hw4⟩;replace hw4:=hw4.symm;subst hw4))
      go_roundw
      case rel=>exact ⟨i+1,by omega,by go_num,by rw [uh HSN];exact (uh HV1).put 0 (.int .i64 nx) rfl⟩
      case measure=>simp [intOf];omega
    ·rw [if_neg (by intro e;have e2:=Option.some.inj (show some 2=some dt.size from e);omega)] at HSN;rw [decide_eq_false hs];go_wp2_with (first | (go_at_call 48;refine (uh CI _ _).mono ?_;rintro e w4 ⟨rfl,hw4⟩;replace hw4:=hw4.symm;subst hw4))
     go_roundw
     case rel=>exact ⟨i+1,by omega,by go_num,by rw [uh HSN];exact uh HV1⟩
     case measure=>simp [intOf];omega
   by_cases hk2:kd=2
   ·subst hk2;by_cases hs:dt.size=4
    ·have hlt4:=eM dt.data.toList (by rw [bC];omega);rw [if_pos (by rw [hs];rfl)] at HSN;have g4:mE dt 4=ax dt.data.toList:=if_pos hs;rw [g4,decide_eq_true hs];unfold aD at HSN;rw [if_neg (by decide),if_pos rfl] at HSN;unfold an at HSN;rw [if_pos (by unfold iv aK;dsimp only;rw [y1,jz hlt4,y3];rfl)] at HSN;go_wp2_with (first | (go_at_call 48;refine (uh CI _ _).mono ?_;rintro e w4 ⟨rfl,hw4⟩;replace hw4:=hw4.symm;subst hw4))
     go_roundw
     case rel=>exact ⟨i+1,by omega,by go_num,by rw [uh HSN];exact (uh HV1).put 1 (.int .i64 (ax dt.data.toList:Nat)) rfl⟩
     case measure=>simp [intOf];omega
    ·rw [if_neg (by intro e;have e2:=Option.some.inj (show some 4=some dt.size from e);omega)] at HSN;rw [decide_eq_false hs];go_wp2_with (first | (go_at_call 48;refine (uh CI _ _).mono ?_;rintro e w4 ⟨rfl,hw4⟩;replace hw4:=hw4.symm;subst hw4))
     go_roundw
     case rel=>exact ⟨i+1,by omega,by go_num,by rw [uh HSN];exact uh HV1⟩
     case measure=>simp [intOf];omega
   by_cases hk5:kd=5
   ·subst hk5;by_cases hs:dt.size=4
    ·have hlt4:=eM dt.data.toList (by rw [bC];omega);rw [if_pos (by rw [hs];rfl)] at HSN;have g4:mE dt 4=ax dt.data.toList:=if_pos hs;rw [g4,decide_eq_true hs];unfold aD at HSN;rw [if_neg (by decide),if_neg (by decide),if_pos rfl] at HSN;unfold an at HSN;rw [if_pos (by unfold iv aK;dsimp only;rw [y1,y2,jz hlt4];rfl)] at HSN;go_wp2_with (first | (go_at_call 48;refine (uh CI _ _).mono ?_;rintro e w4 ⟨rfl,hw4⟩;replace hw4:=hw4.symm;subst hw4))
     go_roundw
     case rel=>exact ⟨i+1,by omega,by go_num,by rw [uh HSN];exact (uh HV1).put 2 (.int .i64 (ax dt.data.toList:Nat)) rfl⟩
     case measure=>simp [intOf];omega
    ·rw [if_neg (by intro e;have e2:=Option.some.inj (show some 4=some dt.size from e);omega)] at HSN;rw [decide_eq_false hs];go_wp2_with (first | (go_at_call 48;refine (uh CI _ _).mono ?_;rintro e w4 ⟨rfl,hw4⟩;replace hw4:=hw4.symm;subst hw4))
     go_roundw
     case rel=>exact ⟨i+1,by omega,by go_num,by rw [uh HSN];exact uh HV1⟩
     case measure=>simp [intOf];omega
   by_cases hk7:kd=7
   ·subst hk7;have HSN2:Hid (bF x (F.take (i+1))=y):=by
     refine aa ((uh HSN).trans ?_);rw [sW,dD,ite_self]
    go_wp2_with (first | (go_at_call 48;refine (uh CI _ _).mono ?_;rintro e w4 ⟨rfl,hw4⟩;replace hw4:=hw4.symm;subst hw4))
    go_roundw
    case rel=>exact ⟨i+1,by omega,by go_num,by rw [uh HSN2];exact uh HV1⟩
    case measure=>simp [intOf];omega
   by_cases hk8:kd=8
   ·subst hk8;have HSN2:Hid (bF x (F.take (i+1))=y):=by
     refine aa ((uh HSN).trans ?_);rw [sX,dD,ite_self]
    go_wp2_with (first | (go_at_call 48;refine (uh CI _ _).mono ?_;rintro e w4 ⟨rfl,hw4⟩;replace hw4:=hw4.symm;subst hw4))
    go_roundw
    case rel=>exact ⟨i+1,by omega,by go_num,by rw [uh HSN2];exact uh HV1⟩
    case measure=>simp [intOf];omega
   by_cases hk9:kd=9
   ·subst hk9;cases h4:(dt.toList == [2])
    ·have HSN2:Hid (bF x (F.take (i+1))=y):=by
      refine aa ((uh HSN).trans ?_);by_cases hs:dt.size=1
      ·rw [if_pos (by rw [hs];rfl)];have hb:(((ax dt.data.toList:Nat):Int) != 2)=true:=by unfold bne;rw [n_ dt hs,h4];rfl
       rw [n6,hb,Bool.and_true];exact dD y
      ·rw [if_neg (by intro e;have e2:=Option.some.inj (show some 1=some dt.size from e);omega)]
     go_wp2_with (first | (go_at_call 48;refine (uh CI _ _).mono ?_;rintro e w4 ⟨rfl,hw4⟩;replace hw4:=hw4.symm;subst hw4))
     go_roundw
     case rel=>exact ⟨i+1,by omega,by go_num,by rw [uh HSN2];exact uh HV1⟩
     case measure=>simp [intOf];omega
    ·have hs:dt.size=1:=by
      have:=eq_of_beq h4
      rw [ByteArray.toList_eq] at this;have h5:=congrArg List.length this;rw [Array.length_toList] at h5;exact h5
     rw [if_pos (by rw [hs];rfl)] at HSN;have hb:(((ax dt.data.toList:Nat):Int) != 2)=false:=by unfold bne;rw [n_ dt hs,h4];rfl
     rw [n6,hb,Bool.and_false] at HSN;unfold an at HSN;rw [if_pos (by unfold iv aK;dsimp only;rw [y1,y2,y3];rfl)] at HSN;go_wp2_with (first | (go_at_call 48;refine (uh CI _ _).mono ?_;rintro e w4 ⟨rfl,hw4⟩;replace hw4:=hw4.symm;subst hw4))
     go_roundw
     case rel=>exact ⟨i+1,by omega,by go_num,by rw [uh HSN];exact (uh HV1).put 5 (.bool false) rfl⟩
     case measure=>simp [intOf];omega
   have e1:(kd == 1)=false:=beq_eq_false_iff_ne.2 hk1;have e2:(kd == 2)=false:=beq_eq_false_iff_ne.2 hk2;have e5:(kd == 5)=false:=beq_eq_false_iff_ne.2 hk5;have e9:(kd == 9)=false:=beq_eq_false_iff_ne.2 hk9;have HSN2:Hid (bF x (F.take (i+1))=y):=by
    refine aa ((uh HSN).trans ?_);rw [qI hk1 hk2 hk5 hk9,dD,ite_self]
   go_wp2_with (first | (go_at_call 48;refine (uh CI _ _).mono ?_;rintro e w4 ⟨rfl,hw4⟩;replace hw4:=hw4.symm;subst hw4))
   go_roundw
   case rel=>exact ⟨i+1,by omega,by go_num,by rw [uh HSN2];exact uh HV1⟩
   case measure=>simp [intOf];omega
  ·have e:i=n:=by omega
   subst e;have d1:¬ ((i:Int)<(i:Int)):=by omega
   rw [uh HTL,uh HR] at hS;obtain ⟨m0,m1,m2,m3,m4,m5⟩:=aJ hS.x;obtain ⟨r0,r1,r2,r3,r4,r5⟩:=aJ hS.r;obtain ⟨f0,f1,f2,f3,f4,f5⟩:=eh hS.r;have HS:=aa hS;clear hS HAT HFO HTL HR HOK;go_wp2
   exact bodyPost_ret (v:=.agg (dr R)) (by simp [results,results110,asAddr,jU (dP (uh HS).r (.int .i64 R.m) (.int .i64 R.a) (.int .i64 R.g) (.bool R.p) (.bool R.c) (.bool R.d))]) rfl ⟨rfl,cv (uh HS).b (by omega) _ _ _ _ _ _⟩
theorem lU (x:Cf) (v:Value) (F:List Op.Opt) (w:World) (hx:iv x=true) (hr:Op.right F=true) (h:HoldsO w v F) :
  Calls prog 111 #[.agg (dr x),v] w fun e w'=>e=.returned (.agg (dr (gI x F)))∧Below w.heap.size w w':=by
 have hFl:=Op.right_len hr;have C0:=aa fun W=>dO (x.m:Int) x.a x.g x.p x.c x.d W
 have C1:=aa fun W (hb:Below w.heap.size w W)=>cz v F W (by unfold maxLen;omega) (h.below hb rfl)
 rw [show aK (x.m:Int) x.a x.g=true from hx] at C0;rw [hr] at C1;have HFO:=aa (Op.right_all hr);have HAT:=aa fun i hi=>h.at i hi
 have HOK:=aa hx;obtain ⟨ad,cp,rfl⟩:=h.form;obtain ⟨n,hn⟩:∃ n,F.length=n:=⟨_,rfl⟩;obtain ⟨_,hA,hR,hb⟩:=br w (.cells (dr x) 24) (.cells #[.int .i64 0,.int .i64 0,.int .i64 0,.bool false,.bool false,.bool false] 24);have H0:=aa (zA hA (zA hR hb));clear h hr hA hR hb hx;have HTL:Hid (F.take n=F):=aa (List.take_of_length_le (by omega));obtain ⟨R,hR⟩:∃ R,gI x F=R:=⟨_,rfl⟩;rw [hR];have HR:=aa hR;clear hR;have hx0:gI x (F.take 0)=x:=rfl;rw [hn] at C1 ⊢;go_enter func111,ntmps111
 go_wp2_with fail
 refine (uh C0 _).mono ?_;rintro e w1 ⟨rfl,hb1⟩;have hA1:=(hb1.block w.heap.size (by simp;omega)).trans (uh H0).1;have hR1:=(hb1.block (w.heap.size+1) (by simp)).trans (uh H0).2.1;have hB1:=(uh H0).2.2.trans (hb1.mono (uh H0).2.2.size);have H1:=aa (zA hA1 (zA hR1 hB1));clear hA1 hR1 hB1 hb1 H0 C0;go_wp2_with fail
 refine (uh C1 _ (uh H1).2.2).mono ?_;rintro e w2 ⟨rfl,hb2⟩;have hI:CfQ w (gI x (F.take 0)) w2:=by
  rw [hx0];exact ⟨(hb2.block w.heap.size (ge.1 (uh H1).1).1).trans (uh H1).1,(hb2.block (w.heap.size+1) (ge.1 (uh H1).2.1).1).trans (uh H1).2.1,(uh H1).2.2.trans (hb2.mono (uh H1).2.2.size)⟩
 have HI:=aa hI;clear hI hb2 H1 C1 hx0;go_wp2_with fail
 go_loopw [5] (fun y wr=>∃ i:Nat,i≤n∧y=.int .i64 i∧CfQ w (gI x (F.take i)) wr) (fun y _=>n - (intOf y).toNat)
 case atStart=>exact ⟨0,Nat.zero_le _,rfl,uh HI⟩
 case round =>
  obtain ⟨i,hi,rfl,hS⟩:=hrel;clear HI;by_cases hlt:i<n
  ·have d1:(i:Int)<(n:Int):=by omega
   have d0:(0:Int)≤(i:Int):=by omega
   obtain ⟨g,⟨cp2,e2⟩,hgl,k0,k1⟩:=uh HAT i (by omega);cases e2;replace k0:=(hS.b.cell (p:=⟨g,i*2,none⟩) hgl).trans k0;replace k1:=(hS.b.cell (p:=⟨g,i*2+1,none⟩) hgl).trans k1;have HSN:=aa (lS x F i (by omega));have hok:=uh HFO _ (List.getElem_mem (show i<F.length by omega));generalize F[i]'(by omega)=o at *;obtain ⟨kd,dt⟩:=o;dsimp only at k0 k1;generalize gI x (F.take i)=y at *;have hds:dt.size≤20:=by unfold Op.ok at hok;have:=of_decide_eq_true hok;exact this.2.2
   have HS:=aa hS;clear hS HAT HFO hok HOK;rw [show lQ (Op.Opt.mk kd dt).kind y=lQ kd y from rfl] at HSN;obtain ⟨m0,m1,m2,m3,m4,m5⟩:=aJ (uh HS).x;obtain ⟨f0,f1,f2,f3,f4,f5⟩:=eh (uh HS).x;have HV1:=HS;by_cases hk1:kd=1
   ·subst hk1;go_wp2_with fail
    go_roundw
    case rel=>exact ⟨i+1,by omega,by go_num,by rw [uh HSN];exact (uh HV1).put 0 (.int .i64 300) rfl⟩
    case measure=>simp [intOf];omega
   by_cases hk2:kd=2
   ·subst hk2;go_wp2_with fail
    go_roundw
    case rel=>exact ⟨i+1,by omega,by go_num,by rw [uh HSN];exact (uh HV1).put 1 (.int .i64 4294967295) rfl⟩
    case measure=>simp [intOf];omega
   by_cases hk5:kd=5
   ·subst hk5;go_wp2_with fail
    go_roundw
    case rel=>exact ⟨i+1,by omega,by go_num,by rw [uh HSN];exact (uh HV1).put 2 (.int .i64 0) rfl⟩
    case measure=>simp [intOf];omega
   by_cases hk7:kd=7
   ·subst hk7;go_wp2_with fail
    go_roundw
    case rel=>exact ⟨i+1,by omega,by go_num,by rw [uh HSN];exact (uh HV1).put 3 (.bool false) rfl⟩
    case measure=>simp [intOf];omega
   by_cases hk8:kd=8
   ·subst hk8;go_wp2_with fail
    go_roundw
    case rel=>exact ⟨i+1,by omega,by go_num,by rw [uh HSN];exact (uh HV1).put 4 (.bool false) rfl⟩
    case measure=>simp [intOf];omega
   by_cases hk9:kd=9
   ·subst hk9;go_wp2_with fail
    go_roundw
    case rel=>exact ⟨i+1,by omega,by go_num,by rw [uh HSN];exact (uh HV1).put 5 (.bool false) rfl⟩
    case measure=>simp [intOf];omega
   have e1:(kd == 1)=false:=beq_eq_false_iff_ne.2 hk1;have e2:(kd == 2)=false:=beq_eq_false_iff_ne.2 hk2;have e5:(kd == 5)=false:=beq_eq_false_iff_ne.2 hk5;have e7:(kd == 7)=false:=beq_eq_false_iff_ne.2 hk7;have e8:(kd == 8)=false:=beq_eq_false_iff_ne.2 hk8;have e9:(kd == 9)=false:=beq_eq_false_iff_ne.2 hk9;have HSN2:Hid (gI x (F.take (i+1))=y):=by
    refine aa ((uh HSN).trans ?_);unfold lQ;rw [if_neg hk1,if_neg hk2,if_neg hk5,if_neg hk7,if_neg hk8,if_neg hk9]
   go_wp2_with fail
   go_roundw
   case rel=>exact ⟨i+1,by omega,by go_num,by rw [uh HSN2];exact uh HV1⟩
   case measure=>simp [intOf];omega
  ·have e:i=n:=by omega
   subst e;have d1:¬ ((i:Int)<(i:Int)):=by omega
   rw [uh HTL,uh HR] at hS;obtain ⟨m0,m1,m2,m3,m4,m5⟩:=aJ hS.x;obtain ⟨r0,r1,r2,r3,r4,r5⟩:=aJ hS.r;obtain ⟨f0,f1,f2,f3,f4,f5⟩:=eh hS.r;have HS:=aa hS;clear hS HAT HFO HTL HR HOK;go_wp2
   exact bodyPost_ret (v:=.agg (dr R)) (by simp [results,results111,asAddr,jU (dP (uh HS).r (.int .i64 R.m) (.int .i64 R.a) (.int .i64 R.g) (.bool R.p) (.bool R.c) (.bool R.d))]) rfl ⟨rfl,cv (uh HS).b (by omega) _ _ _ _ _ _⟩
end Go.Proofs.YtjdgiimfpkideaaGreatDoor
