/- LnSp -/
import Derived.Test.YtjdgiimfpkideaaGreatDoorS01
import Derived.Test.YtjdgiimfpkideaaGreatDoorS02
set_option maxHeartbeats 8000000
set_option maxRecDepth 100000
namespace Go.Proofs.YtjdgiimfpkideaaGreatDoor
open Go.RowKit Go.Proofs.Tryz
variable {w q:World} {X:Nat} {x:Ln}
def mE(t:ByteArray)(many:Nat):Nat:=if t.size=many then da t.data.toList else 0
theorem iz(t:ByteArray)(many:Nat)(w:World)(ht:t.size<=20)(hm:many<=4):Calls prog 126 #[t,many] w fun e w'=>e=.returned (.tuple #[.int .i64 (mE t many:Nat),.bool (decide (t.size=many))])/\w'=w:=by
 unfold mE;by_cases h:t.size=many
 .rw [if_pos h,decide_eq_true h];exact dX t many w hm h
 .rw [if_neg h,decide_eq_false h];exact eN t many w ht h
structure LnQ(w:World)(X:Nat)(x:Ln)(q:World):Prop where
 r:q.heap[w.heap.size]?=some (.cells #[(0:Int),(0:Int),false,false,false] 30)
 x:q.heap[X]?=some (.cells (gR x) 30)
 b:Below w w q
theorem LnQ.step{q':World}(h:LnQ w X x q)(hb:Below q q q'):LnQ w X x q' :=
 ⟨(hb.block _ (ge.1 h.r).1).trans h.r,(hb.block _ (ge.1 h.x).1).trans h.x,h.b.trans (hb.mono h.b.size)⟩
theorem LnQ.put{y:Ln}(h:LnQ w X x q)(h1:w.heap.size<X)(i:Nat)(v:Value)(hy:(gR x).setIfInBounds i v=gR y):LnQ w X y (q.setCell (X,i) v) :=
 ⟨(zJ _ _ _ _ (by simp;omega)).trans h.r,by rw[<- hy];exact zH _ _ i _ _ v h.x,h.b.setCell (p:=(X,i)) (by simp;omega) _⟩
theorem ll(t:ByteArray)(h:t.size=1):(((da t.data.toList:Nat):Int)==4)=(t.toList==[4]):=by
 obtain⟨c,hc⟩:∃c,t.data.toList=[c]:=by
  have:t.data.toList.length=1:=by rw[Array.length_toList];exact h
  exact List.length_eq_one_iff.1 this
 rw[ByteArray.toList_eq,hc];have h4:da [c]=c.toNat:=by simp[da]
 rw[h4];cases hq:((c.toNat:Int)==4)
 .symm
  rw[beq_eq_false_iff_ne];intro e;cases e;cases hq
 .have:c.toNat=4:=by have:=eq_of_beq hq;omega
  have:c=4:=by
   apply UInt8.toNat_inj.1
   exact this
  subst this;rfl
theorem jQ(t:ByteArray):t.toList.isEmpty=decide (t.size=0):=by
 rw[ByteArray.toList_eq];cases h:t.data.toList with
 | nil=>symm;apply decide_eq_true;show t.data.size=0;rw[<- Array.length_toList,h];rfl
 | cons c l=>symm;apply decide_eq_false;show ¬(t.data.size=0);rw[<- Array.length_toList,h];simp
theorem zZ(v:Value)(F:List Op.Opt)(w:World)(hm:F.length<=maxLen)(h:HoldsO w v F):Calls prog 96 #[v] w fun e w'=>e=.returned (.agg (gR (iJ F)))/\Below w w w':=by
 have C1:=aa fun W (hb:Below w w W)=>nA v F W hm (h.below hb rfl)
 unfold iJ;have hb0:Below w w (w.alloc (.cells #[(0:Int),(0:Int),false,false,false] 30)):=(zC _ _).alloc (zD _) _;have hr0:=zF w (.cells #[(0:Int),(0:Int),false,false,false] 30);have H0:=aa (zA hr0 hb0);clear hr0 hb0;cases hr:Op.right F
 .rw [if_neg (by decide)];rw[hr]at C1;obtain⟨ad,cp,rfl⟩:=h.form;clear h;go_enter func96,ntmps96
  go_wp2_with fail
  refine(uh C1 _ H0.out.2).mono ?_;rintro e w1⟨rfl,hb1⟩;have hr1:=(hb1.block w (by simp)).trans H0.out.1;have hB1:=H0.out.2.trans (hb1.mono H0.out.2.size);obtain⟨r0,r1,r2,r3,r4,f0,f1,f2,f3,f4⟩:=fq hr1;have H1:=aa (zA hr1 hB1);clear hr1 hB1 hb1 H0 C1;go_wp2
  exact bodyPost_ret (v:=.agg #[(0:Int),(0:Int),false,false,false]) (by simp[results,results96,asAddr,Cn (gu H1.out.1 (0:Int) (0:Int) false false false)]) rfl ⟨rfl,dY H1.out.2 (zD _) _ _ _ _ _⟩
 .rw [if_pos rfl];rw[hr]at C1;have hFl:=Op.right_len hr;have HFO:=aa (Op.right_all hr);have HAT:=aa fun i hi=>h.at i hi
  obtain⟨ad,cp,rfl⟩:=h.form;obtain⟨n,hn⟩ := ex F.length;clear h hr;have HTL:Hid (F.take n=F):=aa (List.take_of_length_le (by omega));obtain⟨R,hR⟩ := ex (ud F);rw[hR];have HR:=aa hR;clear hR;rw[hn]at C1|-;go_enter func96,ntmps96
  go_wp2_with fail
  refine(uh C1 _ H0.out.2).mono ?_;rintro e w1⟨rfl,hb1⟩;have hI:LnQ w w1 (ud (F.take 0)) (w1.alloc (.cells #[(300:Int),(4294967295:Int),false,false,false] 30)):=by
   have hr1:=(hb1.block w (by simp)).trans H0.out.1;have hB1:=H0.out.2.trans (hb1.mono H0.out.2.size);exact⟨(zG _ _ _ (ge.1 hr1).1).trans hr1,zF w1 _,hB1.alloc hB1.size _⟩
  have hX1:w.heap.size<w1.heap.size:=Nat.lt_of_lt_of_le (ge.1 H0.out.1).1 hb1.size;have HI:=aa hI;clear hI hb1 H0 C1;go_wp2_with fail
  generalize w1.heap.size=X at*;go_loopw [4] (fun y wr=>∃i:Nat,i<=n/\y=.int .i64 i/\LnQ w X (ud (F.take i)) wr) (fun y _=>n-(intOf y).toNat)
  case atStart=>exact⟨0,Nat.zero_le _,rfl,uh HI⟩
  case round =>
   obtain⟨i,hi,rfl,hS⟩:=hrel;clear HI;by_cases hlt:i<n
   .have d1:(i:Int)<(n:Int):=by omega
    have d0:(0:Int)<=(i:Int):=by omega
    obtain⟨g,⟨cp2,e2⟩,hgl,k0,k1⟩:=uh HAT i (by omega);cases e2;replace k0:=(hS.b.cell (p:=⟨g,i*2,none⟩) hgl).trans k0;replace k1:=(hS.b.cell (p:=⟨g,i*2+1,none⟩) hgl).trans k1;have HSN:=aa (i_ F i (by omega));have hok:=uh HFO _ (List.getElem_mem (show i<F.length by omega));generalize F[i]'(by omega)=o at*;obtain⟨kd,dt⟩:=o;dsimp only at k0 k1;generalize ud (F.take i)=x at*;have hds:dt.size<=20:=by unfold Op.ok at hok;have:=of_decide_eq_true hok;exact this.2.2
    have HS:=aa hS;clear hS HAT HFO hok;go_upto_region 8 with fail
    refine bb (fun q=>LnQ w X x q/\q.heap[wr.heap.size]?=some (.cells #[kd,dt] 105))
     ⟨HS.out.step ((zC _ _).alloc (zD _) _),zF wr _⟩ ?_
    rintro q1⟨hS1,hO1⟩;generalize wr.heap.size=N1 at*;obtain⟨c0,c1,_,_⟩:=av hO1;obtain⟨m0,m1,m2,m3,m4,f0,f1,f2,f3,f4⟩:=fq hS1.x;have HV1:=aa hS1;clear hO1 HS k0 k1 hS1;have C2:=aa fun W=>iz dt 2 W hds (by decide)
    have C4:=aa fun W=>iz dt 4 W hds (by decide)
    have CI:=aa fun y W=>dl y 64 300 W
    go_wp2_with fail
    refine cq (uh C2 _) ?_;go_wp2_with fail
    refine cq (uh C4 _) ?_;clear C2 C4;unfold xP at HSN;dsimp only at HSN;by_cases hk1:kd=1
    .subst hk1;by_cases hs:dt.size=2
     .rw [if_pos (by rw[hs];rfl)]at HSN;have g2:mE dt 2=da dt.data.toList:=if_pos hs;rw[g2,decide_eq_true hs];unfold gT at HSN;rw[if_pos rfl]at HSN;generalize da dt.data.toList=nx at*;cases hw:bh 64 300 (nx:Int)
      .rw [hw,if_neg (by decide)]at HSN;have CI2:=aa fun W=>dl (nx:Int) 64 300 W
       rw[hw]at CI2;clear CI;go_wp2_with (first|(go_at_call 48;refine cq (uh CI2 _) ?_))
       go_roundw
       case rel=>exact⟨i+1,by omega,by go_num,by rw[uh HSN];exact uh HV1⟩
       case measure=>simp[intOf];omega
      .rw [hw,if_pos rfl]at HSN;have CI2:=aa fun W=>dl (nx:Int) 64 300 W
       rw[hw]at CI2;clear CI;go_wp2_with (first|(go_at_call 48;refine cq (uh CI2 _) ?_))
       go_roundw
       case rel=>exact⟨i+1,by omega,by go_num,by rw[uh HSN];exact HV1.out.put hX1 0 nx rfl⟩
       case measure=>simp[intOf];omega
     .rw [if_neg (by intro e;have e2:=Option.some.inj (show some 2=some dt.size from e);omega)]at HSN;rw[decide_eq_false hs];go_wp2_with (first|(go_at_call 48;refine cq (uh CI _ _) ?_))
      go_roundw
      case rel=>exact⟨i+1,by omega,by go_num,by rw[uh HSN];exact uh HV1⟩
      case measure=>simp[intOf];omega
    by_cases hk2:kd=2
    .subst hk2;by_cases hs:dt.size=4
     .rw [if_pos (by rw[hs];rfl)]at HSN;have g4:mE dt 4=da dt.data.toList:=if_pos hs;rw[g4,decide_eq_true hs];unfold gT at HSN;rw[if_neg (by decide),if_pos rfl]at HSN;go_wp2_with (first|(go_at_call 48;refine cq (uh CI _ _) ?_))
      go_roundw
      case rel=>exact⟨i+1,by omega,by go_num,by rw[uh HSN];exact HV1.out.put hX1 1 (.int .i64 (da dt.data.toList:Nat)) rfl⟩
      case measure=>simp[intOf];omega
     .rw [if_neg (by intro e;have e2:=Option.some.inj (show some 4=some dt.size from e);omega)]at HSN;rw[decide_eq_false hs];go_wp2_with (first|(go_at_call 48;refine cq (uh CI _ _) ?_))
      go_roundw
      case rel=>exact⟨i+1,by omega,by go_num,by rw[uh HSN];exact uh HV1⟩
      case measure=>simp[intOf];omega
    by_cases hk7:kd=7
    .subst hk7;have hem:=jQ dt;by_cases hs:dt.size=0
     .rw [if_pos (by rw[hs];rfl)]at HSN;rw[decide_eq_true hs]at hem;unfold gT at HSN;rw[if_neg (by decide),if_neg (by decide),if_pos rfl]at HSN;go_wp2_with (first|(go_at_call 48;refine cq (uh CI _ _) ?_))
      go_roundw
      case rel=>exact⟨i+1,by omega,by go_num,by rw[uh HSN];exact HV1.out.put hX1 2 true rfl⟩
      case measure=>simp[intOf];omega
     .rw [if_neg (by intro e;have e2:=Option.some.inj (show some 0=some dt.size from e);omega)]at HSN;rw[decide_eq_false hs]at hem;go_wp2_with (first|(go_at_call 48;refine cq (uh CI _ _) ?_))
      go_roundw
      case rel=>exact⟨i+1,by omega,by go_num,by rw[uh HSN];exact uh HV1⟩
      case measure=>simp[intOf];omega
    by_cases hk8:kd=8
    .subst hk8;have hem:=jQ dt;by_cases hs:dt.size=0
     .rw [if_pos (by rw[hs];rfl)]at HSN;rw[decide_eq_true hs]at hem;unfold gT at HSN;rw[if_neg (by decide),if_neg (by decide),if_neg (by decide),if_pos rfl]at HSN;go_wp2_with (first|(go_at_call 48;refine cq (uh CI _ _) ?_))
      go_roundw
      case rel=>exact⟨i+1,by omega,by go_num,by rw[uh HSN];exact HV1.out.put hX1 3 true rfl⟩
      case measure=>simp[intOf];omega
     .rw [if_neg (by intro e;have e2:=Option.some.inj (show some 0=some dt.size from e);omega)]at HSN;rw[decide_eq_false hs]at hem;go_wp2_with (first|(go_at_call 48;refine cq (uh CI _ _) ?_))
      go_roundw
      case rel=>exact⟨i+1,by omega,by go_num,by rw[uh HSN];exact uh HV1⟩
      case measure=>simp[intOf];omega
    by_cases hk9:kd=9
    .subst hk9;cases h4:(dt.toList==[4])
     .have HSN2:Hid (ud (F.take (i+1))=x):=by
       refine aa (HSN.out.trans ?_);by_cases hs:dt.size=1
       .rw [if_pos (by rw[hs];rfl)];unfold gT;rw[if_neg (by decide),if_neg (by decide),if_neg (by decide),if_neg (by decide),if_pos rfl,ll dt hs,h4,Bool.or_false]
       .rw [if_neg (by intro e;have e2:=Option.some.inj (show some 1=some dt.size from e);omega)]
      go_wp2_with (first|(go_at_call 48;refine cq (uh CI _ _) ?_))
      go_roundw
      case rel=>exact⟨i+1,by omega,by go_num,by rw[uh HSN2];exact uh HV1⟩
      case measure=>simp[intOf];omega
     .have hs:dt.size=1:=by
       have:=eq_of_beq h4
       rw[ByteArray.toList_eq]at this;have h5:=congrArg List.length this;rw[Array.length_toList]at h5;exact h5
      rw[if_pos (by rw[hs];rfl)]at HSN;have hn4:=ll dt hs;rw[h4]at hn4;unfold gT at HSN;rw[if_neg (by decide),if_neg (by decide),if_neg (by decide),if_neg (by decide),if_pos rfl,hn4,Bool.or_true]at HSN;go_wp2_with (first|(go_at_call 48;refine cq (uh CI _ _) ?_))
      go_roundw
      case rel=>exact⟨i+1,by omega,by go_num,by rw[uh HSN];exact HV1.out.put hX1 4 true rfl⟩
      case measure=>simp[intOf];omega
    have e1:(kd==1)=false:=zL hk1;have e2:(kd==2)=false:=zL hk2;have e7:(kd==7)=false:=zL hk7;have e8:(kd==8)=false:=zL hk8;have e9:(kd==9)=false:=zL hk9;have HSN2:Hid (ud (F.take (i+1))=x):=by
     refine aa (HSN.out.trans ?_);unfold gT;rw[if_neg hk1,if_neg hk2,if_neg hk7,if_neg hk8,if_neg hk9,ite_self]
    go_wp2_with (first|(go_at_call 48;refine cq (uh CI _ _) ?_))
    go_roundw
    case rel=>exact⟨i+1,by omega,by go_num,by rw[uh HSN2];exact uh HV1⟩
    case measure=>simp[intOf];omega
   .have e:i=n:=by omega
    subst e;have d1:¬((i:Int)<(i:Int)):=by omega
    rw[uh HTL,uh HR]at hS;obtain⟨m0,m1,m2,m3,m4,_,_,_,_,_⟩:=fq hS.x;obtain⟨r0,r1,r2,r3,r4,f0,f1,f2,f3,f4⟩:=fq hS.r;have HS:=aa hS;clear hS HAT HFO HTL HR;go_wp2
    exact bodyPost_ret (v:=.agg (gR R)) (by simp[results,results96,asAddr,Cn (gu HS.out.r R.m R.a R.p R.c R.d)]) rfl ⟨rfl,dY HS.out.b (zD _) _ _ _ _ _⟩
end Go.Proofs.YtjdgiimfpkideaaGreatDoor
