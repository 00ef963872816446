/- WkG WkH CfL SpecEnd SpecGood -/
import Derived.Test.YtjebigodbnefiaaGreatDoorS16
import Derived.Test.YtjebigodbnefiaaGreatDoorS18
import Derived.Test.YtjebigodbnefiaaGreatDoorS21
set_option maxHeartbeats 8000000
set_option maxRecDepth 100000
namespace Go.Proofs.YtjebigodbnefiaaGreatDoor
open Go.RowKit Go.Proofs.Tryz
def bY (now:Int):Cx:=⟨now,0,0,⟨#[]⟩,[],0,[],.slice none 0 0,.slice none 0 0⟩
abbrev jF (e:En) (v1 v2:Value) (now:Int):List Value:=lF (bY now) e v1 v2 (.slice none 0 0) (.slice none 0 0)
theorem Lay.start {T:TypeId} (hT:Tt T) {w z:World} {e:En} {v1 v2:Value} {F1 F2:List Op.Opt} {n1 n2:Nat} (e1:F1.length=n1) (e2:F2.length=n2) (now:Int) (o1:z.ownsRow w.heap.size 27 2 v1 n1 (aj F1)) (o2:z.ownsRow w.heap.size 27 2 v2 n2 (aj F2)) (ap:Ap v1 v2) (lo:Below w.heap.size w z) :
  Lay T w (z.alloc (.cells (jF e v1 v2 now).toArray T)) z.heap.size (bY now) ⟨e,F1,F2,[],[]⟩ v1 v2 (.slice none 0 0) (.slice none 0 0) (z.alloc (.cells (jF e v1 v2 now).toArray T)):=by
 subst e1 e2;have hb:Below z.heap.size z (z.alloc (.cells (jF e v1 v2 now).toArray T)):=(zC _ _).alloc (zD _) _;exact ⟨zF z _,aP o1 hb,aP o2 hb,World.ownsRow_nil _ _ _ _,World.ownsRow_nil _ _ _ _,World.ownsRow_nil _ _ _ _,eY _ _ _,lo.size,hT,ap,(Ap.none _ _ _).symm,lo.trans (hb.mono lo.size),Nr.refl _ _⟩
def yP:List ByteArray:=[mO,mP,mQ,bP,bQ,bL]
theorem sH:((List.range 6).all fun i=>(List.range 10).all fun k=>(cU (ex i k)).all fun a=>yP.any fun b=>a.data.toList == b.data.toList)=true:=by kernel_rfl
theorem dh {i:Nat} {t:ByteArray} (hi:i<6) (ht:bq[i]?=some t) {st:Int} (h0:0≤st) (h9:st≤9):(∀ a ∈ (bO st t).2.1,a ∈ yP)∧(bO st t).2.1.length≤30:=by
 obtain ⟨k,rfl⟩:∃ k:Nat,st=(k:Int):=⟨st.toNat,by omega⟩;have hk:k<10:=by omega
 obtain ⟨e,⟨_,hl⟩,_⟩:=iO ht hk;rw [e];split
 ·exact ⟨fun a ha=>by simp at ha,by simp⟩
 ·refine ⟨fun a ha=>?_,hl⟩;have h:=List.all_eq_true.1 (List.all_eq_true.1 (List.all_eq_true.1 sH i (List.mem_range.2 hi)) k (List.mem_range.2 hk)) a ha;obtain ⟨b,hb,e⟩:=List.any_eq_true.1 h;have e2:a=b:=by
   obtain ⟨⟨l⟩⟩:=a;obtain ⟨⟨m⟩⟩:=b;have:l=m:=by simpa using e
   rw [this]
  exact e2 ▸ hb
theorem ky {e:En} {F1 F2:List Op.Opt} {now:Int} (h:(dJ e F1 F2 && al 0 1000000000 now)=true):Fit 0 (bY now) ⟨e,F1,F2,[],[]⟩∧(0≤e.st∧e.st≤9)∧-1≤e.du:=by
 simp only [dJ,al,Bool.and_eq_true,decide_eq_true_eq] at h;obtain ⟨⟨h1,h2,h3,h4,h5,h6,h7,h8,h9,_⟩,h10⟩:=h;have hdu:-1≤e.du:=by
  split at h9
  ·simp only [Bool.and_eq_true,decide_eq_true_eq] at h9;omega
  ·have:e.du=-1:=by simpa using h9
   omega
 exact ⟨⟨h1,h2,h5,h4,h6,h10,h7,h8,zD _,zD _,rfl,rfl,Nat.zero_le _,hdu⟩,h3,hdu⟩
theorem EvA.up {w W q:World} {X:Nat} {o:EO} {cs:Array Value} (h:EvA W o (.returned (.agg cs)) q) (hb:Below w.heap.size w W) (hX:W.heap[X]?=some (.cells bk 121)) (hXw:w.heap.size≤X) :
  cs.size=33∧cs.all (·.oneCell')=true∧q.heap[X]?=some (.cells bk 121)∧EvA w o (.returned (.agg cs)) (q.setRow X cs):=by
 obtain ⟨v1,v2,vs,vt,e,o1,o2,os,ot,ap,lo⟩:=h;have e':cs=aC o.e v1 v2 vs vt o.cd:=by injection e with e;injection e
 subst e';have hX':q.heap[X]?=some (.cells bk 121):=(lo.block X (ge.1 hX).1).trans hX;obtain ⟨a1,p1,e1⟩:=af o1;obtain ⟨a2,p2,e2⟩:=af o2;obtain ⟨a3,p3,e3⟩:=af os;obtain ⟨a4,p4,e4⟩:=af ot;refine ⟨rfl,?_,hX',v1,v2,vs,vt,rfl,aE (az o1 hX' (by decide)) hb.size,aE (az o2 hX' (by decide)) hb.size,aE (az os hX' (by decide)) hb.size,aE (az ot hX' (by decide)) hb.size,ap,?_⟩
 ·rw [e1,e2,e3,e4];exact aG _ _ _ _ _ _ _ _ _ _ _ _ _ _
 ·exact am (hb.trans (lo.mono hb.size)) hXw _
theorem EvA.out {w W q:World} {X:Nat} {o:EO} {r:Ending} (h:EvA W o r q) (hb:Below w.heap.size w W) (hX:W.heap[X]?=some (.cells bk 121)) (hXw:w.heap.size≤X) :
  ∃ cs:Array Value,r=.returned (.agg cs)∧cs.size=33∧cs.all (·.oneCell')=true∧q.heap[X]?=some (.cells bk 121)∧EvA w o (.returned (.agg cs)) (q.setRow X cs):=by
 obtain ⟨v1,v2,vs,vt,rfl,h'⟩:=h;exact ⟨_,rfl,EvA.up ⟨v1,v2,vs,vt,rfl,h'⟩ hb hX hXw⟩
theorem qF (x:Cf) (v:Value) (F:List Op.Opt) (w:World) (hx:iv x=true) (hr:Op.right F=true) (h:HoldsO w v F) :
  Calls prog 200 #[.agg (dr x),v] w fun e w'=>e=.returned (.agg (dr (bF x F)))∧Below w.heap.size w w':=by
 have hFl:=Op.right_len hr;have C0:=aa fun W=>dm (x.m:Int) x.a x.g x.p x.c x.d W
 have C1:=aa fun W (hb:Below w.heap.size w W)=>cq v F W (by unfold maxLen;omega) (h.below hb rfl)
 rw [show aK (x.m:Int) x.a x.g=true from hx] at C0;rw [hr] at C1;have HFO:=aa (Op.right_all hr);have HAT:=aa fun i hi=>h.at i hi
 obtain ⟨ad,cp,rfl⟩:=h.form;obtain ⟨n,hn⟩:∃ n,F.length=n:=⟨_,rfl⟩;obtain ⟨_,hA,hR,hb⟩:=br w (.cells (dr x) 35) (.cells #[.int .i64 0,.int .i64 0,.int .i64 0,.bool false,.bool false,.bool false] 35);have H0:=aa (zA hA (zA hR hb));have d0:¬ ((400:Int)<(n:Int)):=by omega
 clear h hr hA hR hb;have HTL:Hid (F.take n=F):=aa (List.take_of_length_le (by omega));obtain ⟨R,hR⟩:∃ R,bF x F=R:=⟨_,rfl⟩;rw [hR];have HR:=aa hR;clear hR;have hx0:bF x (F.take 0)=x:=rfl;rw [hn] at C1 ⊢;go_enter func200,ntmps200
 go_wp2_with fail
 refine (uh C0 _).mono ?_;rintro e w1 ⟨rfl,hb1⟩;have hA1:=(hb1.block w.heap.size (by simp;omega)).trans (uh H0).1;have hR1:=(hb1.block (w.heap.size+1) (by simp)).trans (uh H0).2.1;have hB1:=(uh H0).2.2.trans (hb1.mono (uh H0).2.2.size);have H1:=aa (zA hA1 (zA hR1 hB1));clear hA1 hR1 hB1 hb1 H0 C0;go_wp2_with fail
 refine (uh C1 _ (uh H1).2.2).mono ?_;rintro e w2 ⟨rfl,hb2⟩;have hA2:=(hb2.block w.heap.size (ge.1 (uh H1).1).1).trans (uh H1).1;have hR2:=(hb2.block (w.heap.size+1) (ge.1 (uh H1).2.1).1).trans (uh H1).2.1;have hB2:=(uh H1).2.2.trans (hb2.mono (uh H1).2.2.size);have H2:=aa (zA hA2 (zA hR2 hB2));clear hA2 hR2 hB2 hb2 H1 C1;go_wp2_with fail
 refine (dF _).mono ?_;rintro e w3 ⟨rfl,hm3,hb3⟩;have hI:CfS w w2.heap.size (bF x (F.take 0)) w3:=by
  have hl1:=(ge.1 (uh H2).1).1;have hl2:=(ge.1 (uh H2).2.1).1;rw [hx0];exact ⟨(hb3.block _ hl1).trans (uh H2).1,(hb3.block _ hl2).trans (uh H2).2.1,hm3,(uh H2).2.2.trans (hb3.mono (uh H2).2.2.size)⟩
 have hM:w.heap.size+1<w2.heap.size:=(ge.1 (uh H2).2.1).1;have HI:=aa hI;clear hI hm3 hb3 H2 hx0 hx;go_wp2_with fail
 generalize w2.heap.size=M at *;go_loopw [26] (fun y wr=>∃ i:Nat,i≤n∧y=.int .i64 i∧CfS w M (bF x (F.take i)) wr) (fun y _=>n - (intOf y).toNat)
 case atStart=>exact ⟨0,Nat.zero_le _,rfl,uh HI⟩
 case round =>
  obtain ⟨i,hi,rfl,hS⟩:=hrel;clear HI;by_cases hlt:i<n
  ·have d1:(i:Int)<(n:Int):=by omega
   have d2:(0:Int)≤(i:Int):=by omega
   obtain ⟨g,⟨cp2,e2⟩,hgl,k0,k1⟩:=uh HAT i (by omega);cases e2;replace k0:=(hS.b.cell (p:=⟨g,i*2,none⟩) hgl).trans k0;replace k1:=(hS.b.cell (p:=⟨g,i*2+1,none⟩) hgl).trans k1;have HSN:=aa (jw x F i (by omega));have hok:=uh HFO _ (List.getElem_mem (show i<F.length by omega));generalize F[i]'(by omega)=o at *;obtain ⟨kd,dt⟩:=o;dsimp only at k0 k1;generalize bF x (F.take i)=y at *;have hds:dt.size≤20:=by unfold Op.ok at hok;have:=of_decide_eq_true hok;exact this.2.2
   have HS:=aa hS;clear hS HAT HFO hok;go_upto_region 9 with fail
   refine aI (fun q=>CfS w M y q∧q.heap[wr.heap.size]?=some (.cells #[.int .i64 kd,.string dt] 27))
    ⟨(uh HS).step ((zC _ _).alloc (zD _) _),zF wr _⟩ ?_
   rintro q1 ⟨hS1,hO1⟩;have hN1:M<wr.heap.size:=(ge.1 (uh HS).m).1;generalize wr.heap.size=N1 at *;have hl1:N1<q1.heap.size:=(ge.1 hO1).1;obtain ⟨c0,c1,_,_⟩:=cy hO1;have HV1:=aa (zA hS1 hO1);clear hO1 HS k0 k1;unfold fN at HSN;dsimp only at HSN;rcases qy kd with ⟨s,f,f2,f3,f4,f5,j,hs,hJ⟩ | ⟨hs,hwo,hf⟩
   ·have CR:=aa (gh M kd dt s f f2 f3 f4 f5 j q1 hS1.m hJ.fd);have hcf:=hJ.cf3;have HJL:=aa hJ.ls;have h4:=i8 hs;clear hS1 hJ;go_wp2_with fail
    refine (uh CR).mono ?_;rintro e w3' ⟨rfl,hb3⟩;have HV3:=aa (zA ((uh HV1).1.step hb3) ((hb3.block N1 hl1).trans (uh HV1).2));have hl3:N1<w3'.heap.size:=Nat.lt_of_lt_of_le hl1 hb3.size;clear hb3 HV1 hl1 c0 c1 CR;cases hq:((dt.size:Int) == (s:Int))
    ·have hne:¬ (bN kd=some dt.size):=fun e=>by
      rw [hs] at e;cases e;rw [beq_self_eq_true] at hq;cases hq
     rw [if_neg hne] at HSN;go_wp2_with fail
     go_roundw
     case rel=>exact ⟨i+1,by omega,by go_num,by rw [uh HSN];exact (uh HV3).1.step ((zC _ _).alloc (zD _) _)⟩
     case measure=>simp [intOf];omega
    ·have hes:dt.size=s:=by have:=eq_of_beq hq;omega
     rw [if_pos (by rw [hs,hes])] at HSN;have CN:=aa fun v=>i7 kd dt v (by omega)
     have HJ2:=aa fun v=>uh HJL y (ax dt.data.toList) v
     have CO:=aa fun v=>sR (aD kd y (ax dt.data.toList)) y v
     generalize ax dt.data.toList=nx at *;clear HJL;go_upto_region 11 with fail
     refine aI (fun q=>CfS w M y q∧q.heap[N1]?=some (.cells #[.int .i64 kd,.string dt] 27)∧q.heap[w3'.heap.size]?=some (.cells #[.int .i64 s,cY f,cY f2,cY f3,cY f4,cY f5] 59))
      ⟨(uh HV3).1.step ((zC _ _).alloc (zD _) _),(zG _ _ _ hl3).trans (uh HV3).2,zF w3' _⟩ ?_
     rintro q4 ⟨hS4,hO4,hR4⟩;generalize w3'.heap.size=N2 at *;obtain ⟨c0,c1,_,_⟩:=cy hO4;obtain ⟨_,_,_,rM,_,_⟩:=aJ hR4;obtain ⟨m0,m1,m2,m3,m4,m5⟩:=aJ hS4.x;have HV4:=aa (zA hS4 (zA hO4 hR4));clear hS4 hO4 hR4 HV3;have hn1:N1<q4.heap.size:=(ge.1 (uh HV4).2.1).1;have hn2:N2<q4.heap.size:=(ge.1 (uh HV4).2.2).1;clear m0 m1 m2 m3 m4 m5;refine ll (I:=fun L a z=>∃ l0 l1 l2 l3 l4 l5 l6 l7 l8:Bool,L=#[l0,l1,l2,l3,l4,l5,l6,l7,l8]∧a=⟨#[.agg (dr x),.slice (some ⟨g,0,none⟩) n cp,.pointer (some ⟨w.heap.size,0,none⟩),undef,.pointer (some ⟨w.heap.size+1,0,none⟩),.map (some M),undef,.pointer (some ⟨N1,0,none⟩),.pointer (some ⟨N2,0,none⟩),.bool true,.slice (some ⟨g,0,none⟩) n cp,.int .i64 (n:Nat),.bool false,undef,.agg #[.int .i64 x.m,.int .i64 x.a,.int .i64 x.g,.bool x.p,.bool x.c,.bool x.d],.bool true,.bool false,.bool false,.slice (some ⟨g,0,none⟩) n cp,.bool true,.bool false,.bool false,undef,.map (some M),.slice (some ⟨g,0,none⟩) n cp,.int .i64 (n:Nat),.int .i64 (i:Nat),.bool true,.pointer (some ⟨g,i*2,none⟩),.agg #[.int .i64 kd,.string dt],.tuple #[aZ (s:Nat) f f2 f3 f4 f5,.bool true],.map (some M),.agg #[.int .i64 kd,.string dt],.tuple #[aZ (s:Nat) f f2 f3 f4 f5,.bool true],aZ (s:Nat) f f2 f3 f4 f5,.bool true,.bool true,cond l0 (.pointer (some ⟨N2,3,none⟩)) u37,cond l1 (cY f3) u38,cond l2 (.agg (dr y)) u39,cond l3 (.agg #[.int .i64 kd,.string dt]) u40,cond l4 (.int .i64 (nx:Nat)) u41,cond l5 (.agg (dr (aD kd y nx))) u42,cond l6 (.agg (dr y)) u43,cond l7 (.agg (dr (an (aD kd y nx) y))) u44,u45,undef],[]⟩∧(l8=false→Below q4.heap.size q4 z)∧(l8=true→(l0 && l1 && l2 && l3 && l4 && l5 && l6 && l7)=true∧CfS w M (an (aD kd y nx) y) z)) (by kernel_rfl) ⟨false,false,false,false,false,false,false,false,false,rfl,rfl,fun _=>(zC _ _).drew,fun e=>by cases e⟩ ?_ (by kernel_rfl) ?_
     ·rintro L a z ⟨l0,l1,l2,l3,l4,l5,l6,l7,l8,rfl,rfl,_,hE⟩ hc;have W8:l8=true:=by
       cases l8
       ·exact absurd (by simp) (List.count_eq_zero.1 hc)
       ·rfl
      have HL:=aa (hE W8).2;clear hE hc W8 hs hq;go_wp2_with fail
      go_roundw
      case rel=>exact ⟨i+1,by omega,by go_num,by rw [uh HSN];exact uh HL⟩
      case measure=>simp [intOf];omega
     ·rintro L a z i9 ⟨l0,l1,l2,l3,l4,l5,l6,l7,l8,rfl,rfl,hB,hE⟩ hi9 hn9 hw9;have h8:l8=false:=by
       cases l8
       ·rfl
       ·have h:=(hE rfl).1;simp only [Bool.and_eq_true] at h;obtain ⟨⟨⟨⟨⟨⟨⟨rfl,rfl⟩,rfl⟩,rfl⟩,rfl⟩,rfl⟩,rfl⟩,rfl⟩:=h;exact absurd hn9 ((by decide:∀ i:Nat,i<9→(#[true,true,true,true,true,true,true,true,true]:Array Bool)[i]?≠some false) i9 hi9)
      subst h8;have B:=hB rfl;replace c0:=(B.cell (p:=⟨N1,0,none⟩) hn1).trans c0;replace c1:=(B.cell (p:=⟨N1,1,none⟩) hn1).trans c1;replace rM:=(B.cell (p:=⟨N2,3,none⟩) hn2).trans rM;have h7:=(uh HV4).1.step B;clear hB hE hn9 HV4;match i9,hi9,hw9 with
      | 0,_,hw =>
       clear hw;clear h7;refine wpOp_step rfl fun K hK=>?_
       go_simp;exact hK _ _ ⟨true,l1,l2,l3,l4,l5,l6,l7,false,rfl,rfl,fun _=>B,fun e=>by cases e⟩
      | 1,_,hw =>
       simp [kn,Region.binds] at hw;have W0:l0=true:=by simp [hw]
       subst W0;simp only [cond_true];clear h7;refine wpOp_step rfl fun K hK=>?_
       go_simp;exact hK _ _ ⟨true,true,l2,l3,l4,l5,l6,l7,false,rfl,rfl,fun _=>B,fun e=>by cases e⟩
      | 2,_,hw =>
       clear hw;obtain ⟨m0,m1,m2,m3,m4,m5⟩:=aJ h7.x;clear h7;refine wpOp_step rfl fun K hK=>?_
       go_simp;exact hK _ _ ⟨l0,l1,true,l3,l4,l5,l6,l7,false,rfl,rfl,fun _=>B,fun e=>by cases e⟩
      | 3,_,hw =>
       clear hw;clear h7;refine wpOp_step rfl fun K hK=>?_
       go_simp;exact hK _ _ ⟨l0,l1,l2,true,l4,l5,l6,l7,false,rfl,rfl,fun _=>B,fun e=>by cases e⟩
      | 4,_,hw =>
       simp [kn,Region.binds] at hw;have W3:l3=true:=by simp [hw]
       subst W3;simp only [cond_true];clear h7;refine wpOp_step rfl fun K hK=>?_
       go_simp;refine (uh CN _).mono ?_;rintro e w5 ⟨rfl,hb5⟩;exact hK _ _ ⟨l0,l1,l2,true,true,l5,l6,l7,false,rfl,rfl,fun _=>B.trans (hb5.mono B.size),fun e=>by cases e⟩
      | 5,_,hw =>
       simp [kn,Region.binds] at hw;have W1:l1=true:=by simp [hw]
       have W2:l2=true:=by simp [hw]
       have W4:l4=true:=by simp [hw]
       subst W1 W2 W4;simp only [cond_true];clear h7;refine wpOp_step rfl fun K hK=>?_
       go_simp;refine (uh HJ2 _).mono ?_;rintro e w5 ⟨rfl,hb5⟩;exact hK _ _ ⟨l0,true,true,l3,true,true,l6,l7,false,rfl,rfl,fun _=>B.trans (hb5.mono B.size),fun e=>by cases e⟩
      | 6,_,hw =>
       clear hw;obtain ⟨m0,m1,m2,m3,m4,m5⟩:=aJ h7.x;clear h7;refine wpOp_step rfl fun K hK=>?_
       go_simp;exact hK _ _ ⟨l0,l1,l2,l3,l4,l5,true,l7,false,rfl,rfl,fun _=>B,fun e=>by cases e⟩
      | 7,_,hw =>
       simp [kn,Region.binds] at hw;have W5:l5=true:=by simp [hw]
       have W6:l6=true:=by simp [hw]
       subst W5 W6;simp only [cond_true];clear h7;refine wpOp_step rfl fun K hK=>?_
       go_simp;refine (uh CO _).mono ?_;rintro e w5 ⟨rfl,hb5⟩;exact hK _ _ ⟨l0,l1,l2,l3,l4,true,true,true,false,rfl,rfl,fun _=>B.trans (hb5.mono B.size),fun e=>by cases e⟩
      | 8,_,hw =>
       simp [kn,Region.binds] at hw;have W0:l0=true:=by simp [hw]
       have W1:l1=true:=by simp [hw]
       have W2:l2=true:=by simp [hw]
       have W3:l3=true:=by simp [hw]
       have W4:l4=true:=by simp [hw]
       have W5:l5=true:=by simp [hw]
       have W6:l6=true:=by simp [hw]
       have W7:l7=true:=by simp [hw]
       subst W0 W1 W2 W3 W4 W5 W6 W7;simp only [cond_true];obtain ⟨m0,m1,m2,m3,m4,m5⟩:=aJ h7.x;obtain ⟨f0',f1',f2',f3',f4',f5'⟩:=eh h7.x;have HL:=aa (h7.put hM (an (aD kd y nx) y));clear h7;refine wpOp_step rfl fun K hK=>?_
       go_simp;exact hK _ _ ⟨true,true,true,true,true,true,true,true,true,rfl,rfl,fun e=>(by cases e),fun _=>⟨rfl,uh HL⟩⟩
      | k+9,hi,_=>exact absurd hi (by simp)
   ·have CR:=aa (gW M kd dt q1 hS1.m hf);rw [if_neg (by rw [hs];intro e;cases e)] at HSN;clear hS1 hf;go_wp2_with fail
    refine (uh CR).mono ?_;rintro e w3' ⟨rfl,hb3⟩;have HV3:=aa ((uh HV1).1.step hb3);clear hb3 HV1 hl1 c0 c1 CR;go_wp2_with fail
    go_roundw
    case rel=>exact ⟨i+1,by omega,by go_num,by rw [uh HSN];exact (uh HV3).step ((zC _ _).alloc (zD _) _)⟩
    case measure=>simp [intOf];omega
  ·have e:i=n:=by omega
   subst e;have d1:¬ ((i:Int)<(i:Int)):=by omega
   rw [uh HTL,uh HR] at hS;obtain ⟨m0,m1,m2,m3,m4,m5⟩:=aJ hS.x;obtain ⟨r0,r1,r2,rM,rN,r5⟩:=aJ hS.r;obtain ⟨f0,f1,f2,f3,f4,f5⟩:=eh hS.r;have HS:=aa hS;clear hS HAT HFO HTL HR;go_wp2
   exact bodyPost_ret (v:=.agg (dr R)) (by simp [results,results200,asAddr,jU (dP (uh HS).r (.int .i64 R.m) (.int .i64 R.a) (.int .i64 R.g) (.bool R.p) (.bool R.c) (.bool R.d))]) rfl ⟨rfl,cv (uh HS).b (by omega) _ _ _ _ _ _⟩
end Go.Proofs.YtjebigodbnefiaaGreatDoor
