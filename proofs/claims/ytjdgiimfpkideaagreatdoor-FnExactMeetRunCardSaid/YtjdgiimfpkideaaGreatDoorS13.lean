/- CfL -/
import Derived.Test.YtjdgiimfpkideaaGreatDoorS12
set_option maxHeartbeats 8000000
set_option maxRecDepth 100000
namespace Go.Proofs.YtjdgiimfpkideaaGreatDoor
open Go.RowKit Go.Proofs.Tryz
theorem de {W:World} {E:Nat} (p:Addr) (hp:p.block≠E) (x0 x1 x2 x3 x4 x5:Value):((((((W.setCell ⟨E,0,none⟩ x0).setCell ⟨E,1,none⟩ x1).setCell ⟨E,2,none⟩ x2).setCell ⟨E,3,none⟩ x3).setCell ⟨E,4,none⟩ x4).setCell ⟨E,5,none⟩ x5).cell? p=W.cell? p:=by
 unfold World.cell?;rw [gq hp]
theorem qF (x:Cf) (v:Value) (F:List Op.Opt) (w:World) (hx:iv x=true) (hr:Op.right F=true) (h:HoldsO w v F) :
  Calls prog 139 #[.agg (dr x),v] w fun e w'=>e=.returned (.agg (dr (bF x F)))∧Below w.heap.size w w':=by
 have hFl:=Op.right_len hr;have C0:=aa fun W=>dm (x.m:Int) x.a x.g x.p x.c x.d W
 have C1:=aa fun W (hb:Below w.heap.size w W)=>cq v F W (by unfold maxLen;omega) (h.below hb rfl)
 rw [show aK (x.m:Int) x.a x.g=true from hx] at C0;rw [hr] at C1;have HFO:=aa (Op.right_all hr);have HAT:=aa fun i hi=>h.at i hi
 obtain ⟨ad,cp,rfl⟩:=h.form;obtain ⟨n,hn⟩:∃ n,F.length=n:=⟨_,rfl⟩;obtain ⟨_,hA,hR,hb⟩:=br w (.cells (dr x) 24) (.cells #[.int .i64 0,.int .i64 0,.int .i64 0,.bool false,.bool false,.bool false] 24);have H0:=aa (zA hA (zA hR hb));have d0:¬ ((400:Int)<(n:Int)):=by omega
 clear h hr hA hR hb;have HTL:Hid (F.take n=F):=aa (List.take_of_length_le (by omega));obtain ⟨R,hR⟩:∃ R,bF x F=R:=⟨_,rfl⟩;rw [hR];have HR:=aa hR;clear hR;have hx0:bF x (F.take 0)=x:=rfl;rw [hn] at C1 ⊢;go_enter func139,ntmps139
 go_wp2_with fail
 refine (uh C0 _).mono ?_;rintro e w1 ⟨rfl,hb1⟩;have hA1:=(hb1.block w.heap.size (by simp;omega)).trans (uh H0).1;have hR1:=(hb1.block (w.heap.size+1) (by simp)).trans (uh H0).2.1;have hB1:=(uh H0).2.2.trans (hb1.mono (uh H0).2.2.size);have H1:=aa (zA hA1 (zA hR1 hB1));clear hA1 hR1 hB1 hb1 H0 C0;go_wp2_with fail
 refine (uh C1 _ (uh H1).2.2).mono ?_;rintro e w2 ⟨rfl,hb2⟩;have hA2:=(hb2.block w.heap.size (ge.1 (uh H1).1).1).trans (uh H1).1;have hR2:=(hb2.block (w.heap.size+1) (ge.1 (uh H1).2.1).1).trans (uh H1).2.1;have hB2:=(uh H1).2.2.trans (hb2.mono (uh H1).2.2.size);have H2:=aa (zA hA2 (zA hR2 hB2));clear hA2 hR2 hB2 hb2 H1 C1;go_wp2_with fail
 refine (dF _).mono ?_;rintro e w3 ⟨rfl,hm3,hb3⟩;have hI:CfS w w2.heap.size (bF x (F.take 0)) w3:=by
  have hl1:=(ge.1 (uh H2).1).1;have hl2:=(ge.1 (uh H2).2.1).1;rw [hx0];exact ⟨(hb3.block _ hl1).trans (uh H2).1,(hb3.block _ hl2).trans (uh H2).2.1,hm3,(uh H2).2.2.trans (hb3.mono (uh H2).2.2.size)⟩
 have hM:w.heap.size+1<w2.heap.size:=(ge.1 (uh H2).2.1).1;have HI:=aa hI;clear hI hm3 hb3 H2 hx0 hx;go_wp2_with fail
 generalize w2.heap.size=M at *;go_loopw [26] (fun y wr=>∃ i:Nat,i≤n∧y=.int .i64 i∧CfS w M (bF x (F.take i)) wr) (fun y _=>n - (intOf y).toNat)
 case atStart=>exact ⟨0,Nat.zero_le _,rfl,uh HI⟩
 case round =>
  obtain ⟨i,hi,rfl,hS⟩:=hrel;clear HI;by_cases hlt:i<n
  ·have d1:(i:Int)<(n:Int):=by omega
   have d2:(0:Int)≤(i:Int):=by omega
   obtain ⟨g,⟨cp2,e2⟩,hgl,k0,k1⟩:=uh HAT i (by omega);cases e2;replace k0:=(hS.b.cell (p:=⟨g,i*2,none⟩) hgl).trans k0;replace k1:=(hS.b.cell (p:=⟨g,i*2+1,none⟩) hgl).trans k1;have HSN:=aa (jw x F i (by omega));have hok:=uh HFO _ (List.getElem_mem (show i<F.length by omega));generalize F[i]'(by omega)=o at *;obtain ⟨kd,dt⟩:=o;dsimp only at k0 k1;generalize bF x (F.take i)=y at *;have hds:dt.size≤20:=by unfold Op.ok at hok;have:=of_decide_eq_true hok;exact this.2.2
   have HS:=aa hS;clear hS HAT HFO hok;go_upto_region 9 with fail
   refine ab (fun q=>CfS w M y q∧q.heap[wr.heap.size]?=some (.cells #[.int .i64 kd,.string dt] 105))
    ⟨(uh HS).step ((zC _ _).alloc (zD _) _),zF wr _⟩ ?_
   rintro q1 ⟨hS1,hO1⟩;have hN1:M<wr.heap.size:=(ge.1 (uh HS).m).1;generalize wr.heap.size=N1 at *;have hl1:N1<q1.heap.size:=(ge.1 hO1).1;obtain ⟨c0,c1,_,_⟩:=av hO1;have HV1:=aa (zA hS1 hO1);clear hO1 HS k0 k1;unfold fN at HSN;dsimp only at HSN;rcases qy kd with ⟨s,f,f2,f3,f4,f5,j,hs,hJ⟩ | ⟨hs,hwo,hf⟩
   ·have CR:=aa (gh M kd dt s f f2 f3 f4 f5 j q1 hS1.m hJ.fd);have hcf:=hJ.cf3;have HJL:=aa hJ.ls;have h4:=i8 hs;clear hS1 hJ;go_wp2_with fail
    refine (uh CR).mono ?_;rintro e w3' ⟨rfl,hb3⟩;have HV3:=aa (zA ((uh HV1).1.step hb3) ((hb3.block N1 hl1).trans (uh HV1).2));have hl3:N1<w3'.heap.size:=Nat.lt_of_lt_of_le hl1 hb3.size;clear hb3 HV1 hl1 c0 c1 CR;cases hq:((dt.size:Int) == (s:Int))
    ·have hne:¬ (bN kd=some dt.size):=fun e=>by
      rw [hs] at e;cases e;rw [beq_self_eq_true] at hq;cases hq
     rw [if_neg hne] at HSN;go_wp2_with fail
     go_roundw
     case rel=>exact ⟨i+1,by omega,by go_num,by rw [uh HSN];exact (uh HV3).1.step ((zC _ _).alloc (zD _) _)⟩
     case measure=>simp [intOf];omega
    ·have hes:dt.size=s:=by have:=eq_of_beq hq;omega
     rw [if_pos (by rw [hs,hes])] at HSN;have CN:=aa fun v=>i7 kd dt v (by omega)
     have HJ2:=aa fun v=>uh HJL y (ax dt.data.toList) v
     have CO:=aa fun v=>sR (aD kd y (ax dt.data.toList)) y v
     generalize ax dt.data.toList=nx at *;clear HJL;go_upto_region 11 with fail
     refine ab (fun q=>CfS w M y q∧q.heap[N1]?=some (.cells #[.int .i64 kd,.string dt] 105)∧q.heap[w3'.heap.size]?=some (.cells #[.int .i64 s,cY f,cY f2,cY f3,cY f4,cY f5] 191))
      ⟨(uh HV3).1.step ((zC _ _).alloc (zD _) _),(zG _ _ _ hl3).trans (uh HV3).2,zF w3' _⟩ ?_
     rintro q4 ⟨hS4,hO4,hR4⟩;generalize w3'.heap.size=N2 at *;obtain ⟨c0,c1,_,_⟩:=av hO4;obtain ⟨_,_,_,rM,_,_⟩:=aJ hR4;obtain ⟨m0,m1,m2,m3,m4,m5⟩:=aJ hS4.x;have HV4:=aa (zA hS4 (zA hO4 hR4));clear hS4 hO4 hR4 HV3;have hn1:N1<q4.heap.size:=(ge.1 (uh HV4).2.1).1;have hn2:N2<q4.heap.size:=(ge.1 (uh HV4).2.2).1;have n1X:N1≠w.heap.size:=by omega
     have n2X:N2≠w.heap.size:=by omega
     clear m0 m1 m2 m3 m4 m5;refine wp_region_held_drew (S:=fun z=>z.cell? ⟨N1,0,none⟩=some (.int .i64 kd)∧z.cell? ⟨N1,1,none⟩=some (.string dt)∧z.cell? ⟨N2,3,none⟩=some (cY f3)) (by kernel_rfl) ?_ (fun hHeld=>?_)
     ·exact ⟨c0,c1,rM⟩
     refine tt 0 1 ?_;refine t2 3 ?_;refine wpAnyH_ready (rs:=[2,4,6]) (by kernel_rfl) (by simp) ?_;refine AllReadyH.cons rfl (fun K hK=>?_) (AllReadyH.cons rfl (fun K hK=>?_) (AllReadyH.cons rfl (fun K hK=>?_) AllReadyH.nil))
     ·obtain ⟨m0,m1,m2,m3,m4,m5⟩:=aJ (uh HV4).1.x;go_simp;refine hK.out _ _ ?_ (fun hH1=>?_)
      ·exact ⟨c0,c1,rM⟩
      clear hK K m0 m1 m2 m3 m4 m5;try simp only [Act.put,sA,sZ,sS,gA,gZ,gS]
      refine r4 4 6 (fun K hK=>?_) (fun K hK=>?_)
      ·go_simp;refine (uh CN _).mono ?_;rintro e w5 ⟨rfl,hb5⟩;have B5:Below q4.heap.size q4 w5:=(zC _ _).drew.trans hb5;clear hb5;go_wp2_with fail
       refine hK.out _ _ ?_ (fun hH2=>?_)
       ·exact ⟨(B5.cell (p:=⟨N1,0,none⟩) hn1).trans c0,(B5.cell (p:=⟨N1,1,none⟩) hn1).trans c1,(B5.cell (p:=⟨N2,3,none⟩) hn2).trans rM⟩
       clear hK K;try simp only [Act.put,sA,sZ,sS,gA,gZ,gS]
       refine r4 5 6 (fun K hK=>?_) (fun K hK=>?_)
       ·go_simp;refine (uh HJ2 _).mono ?_;rintro e w6 ⟨rfl,hb6⟩;have B6:Below q4.heap.size q4 w6:=B5.trans (hb6.mono B5.size);clear hb6;go_wp2_with fail
        refine hK.out _ _ ?_ (fun hH3=>?_)
        ·exact ⟨(B6.cell (p:=⟨N1,0,none⟩) hn1).trans c0,(B6.cell (p:=⟨N1,1,none⟩) hn1).trans c1,(B6.cell (p:=⟨N2,3,none⟩) hn2).trans rM⟩
        clear hK K;try simp only [Act.put,sA,sZ,sS,gA,gZ,gS]
        refine r3 6 fun K hK=>?_
        ·obtain ⟨m0,m1,m2,m3,m4,m5⟩:=aJ ((uh HV4).1.step B6).x;go_simp;refine hK.out _ _ ?_ (fun hH4=>?_)
         ·exact ⟨(B6.cell (p:=⟨N1,0,none⟩) hn1).trans c0,(B6.cell (p:=⟨N1,1,none⟩) hn1).trans c1,(B6.cell (p:=⟨N2,3,none⟩) hn2).trans rM⟩
         clear hK K m0 m1 m2 m3 m4 m5;try simp only [Act.put,sA,sZ,sS,gA,gZ,gS]
         refine r3 7 fun K hK=>?_
         ·go_simp;refine (uh CO _).mono ?_;rintro e w7 ⟨rfl,hb7⟩;have B7:Below q4.heap.size q4 w7:=B6.trans (hb7.mono B6.size);clear hb7;go_wp2_with fail
          refine hK.out _ _ ?_ (fun hH5=>?_)
          ·exact ⟨(B7.cell (p:=⟨N1,0,none⟩) hn1).trans c0,(B7.cell (p:=⟨N1,1,none⟩) hn1).trans c1,(B7.cell (p:=⟨N2,3,none⟩) hn2).trans rM⟩
          clear hK K;try simp only [Act.put,sA,sZ,sS,gA,gZ,gS]
          refine r3 8 fun K hK=>?_
          ·have h7:=(uh HV4).1.step B7;obtain ⟨m0,m1,m2,m3,m4,m5⟩:=aJ h7.x;obtain ⟨f0',f1',f2',f3',f4',f5'⟩:=eh h7.x;have HL:=aa (h7.put hM (an (aD kd y nx) y));clear h7;go_simp;refine hK.out _ _ ?_ (fun hH6=>?_)
           ·have TT:=fun p (hp:p.block≠w.heap.size)=>de (W:=w7) (E:=w.heap.size) p hp (.int .i64 (an (aD kd y nx) y).m) (.int .i64 (an (aD kd y nx) y).a) (.int .i64 (an (aD kd y nx) y).g) (.bool (an (aD kd y nx) y).p) (.bool (an (aD kd y nx) y).c) (.bool (an (aD kd y nx) y).d)
            exact ⟨(TT ⟨N1,0,none⟩ n1X).trans ((B7.cell (p:=⟨N1,0,none⟩) hn1).trans c0),(TT ⟨N1,1,none⟩ n1X).trans ((B7.cell (p:=⟨N1,1,none⟩) hn1).trans c1),(TT ⟨N2,3,none⟩ n2X).trans ((B7.cell (p:=⟨N2,3,none⟩) hn2).trans rM)⟩
           clear hK K;try simp only [Act.put,sA,sZ,sS,gA,gZ,gS]
           refine dn ?_ _;go_wp2_with fail
           go_roundw
           case rel=>exact ⟨i+1,by omega,by go_num,by rw [uh HSN];exact uh HL⟩
           case measure=>simp [intOf];omega
       ·obtain ⟨m0,m1,m2,m3,m4,m5⟩:=aJ ((uh HV4).1.step B5).x;go_simp;refine hK.out _ _ ?_ (fun hH7=>?_)
        ·exact ⟨(B5.cell (p:=⟨N1,0,none⟩) hn1).trans c0,(B5.cell (p:=⟨N1,1,none⟩) hn1).trans c1,(B5.cell (p:=⟨N2,3,none⟩) hn2).trans rM⟩
        clear hK K m0 m1 m2 m3 m4 m5;try simp only [Act.put,sA,sZ,sS,gA,gZ,gS]
        refine r3 5 fun K hK=>?_
        ·go_simp;refine (uh HJ2 _).mono ?_;rintro e w6 ⟨rfl,hb6⟩;have B6:Below q4.heap.size q4 w6:=B5.trans (hb6.mono B5.size);clear hb6;go_wp2_with fail
         refine hK.out _ _ ?_ (fun hH8=>?_)
         ·exact ⟨(B6.cell (p:=⟨N1,0,none⟩) hn1).trans c0,(B6.cell (p:=⟨N1,1,none⟩) hn1).trans c1,(B6.cell (p:=⟨N2,3,none⟩) hn2).trans rM⟩
         clear hK K;try simp only [Act.put,sA,sZ,sS,gA,gZ,gS]
         refine r3 7 fun K hK=>?_
         ·go_simp;refine (uh CO _).mono ?_;rintro e w7 ⟨rfl,hb7⟩;have B7:Below q4.heap.size q4 w7:=B6.trans (hb7.mono B6.size);clear hb7;go_wp2_with fail
          refine hK.out _ _ ?_ (fun hH9=>?_)
          ·exact ⟨(B7.cell (p:=⟨N1,0,none⟩) hn1).trans c0,(B7.cell (p:=⟨N1,1,none⟩) hn1).trans c1,(B7.cell (p:=⟨N2,3,none⟩) hn2).trans rM⟩
          clear hK K;try simp only [Act.put,sA,sZ,sS,gA,gZ,gS]
          refine r3 8 fun K hK=>?_
          ·have h7:=(uh HV4).1.step B7;obtain ⟨m0,m1,m2,m3,m4,m5⟩:=aJ h7.x;obtain ⟨f0',f1',f2',f3',f4',f5'⟩:=eh h7.x;have HL:=aa (h7.put hM (an (aD kd y nx) y));clear h7;go_simp;refine hK.out _ _ ?_ (fun hH10=>?_)
           ·have TT:=fun p (hp:p.block≠w.heap.size)=>de (W:=w7) (E:=w.heap.size) p hp (.int .i64 (an (aD kd y nx) y).m) (.int .i64 (an (aD kd y nx) y).a) (.int .i64 (an (aD kd y nx) y).g) (.bool (an (aD kd y nx) y).p) (.bool (an (aD kd y nx) y).c) (.bool (an (aD kd y nx) y).d)
            exact ⟨(TT ⟨N1,0,none⟩ n1X).trans ((B7.cell (p:=⟨N1,0,none⟩) hn1).trans c0),(TT ⟨N1,1,none⟩ n1X).trans ((B7.cell (p:=⟨N1,1,none⟩) hn1).trans c1),(TT ⟨N2,3,none⟩ n2X).trans ((B7.cell (p:=⟨N2,3,none⟩) hn2).trans rM)⟩
           clear hK K;try simp only [Act.put,sA,sZ,sS,gA,gZ,gS]
           refine dn ?_ _;go_wp2_with fail
           go_roundw
           case rel=>exact ⟨i+1,by omega,by go_num,by rw [uh HSN];exact uh HL⟩
           case measure=>simp [intOf];omega
      ·obtain ⟨m0,m1,m2,m3,m4,m5⟩:=aJ (uh HV4).1.x;go_simp;refine hK.out _ _ ?_ (fun hH11=>?_)
       ·exact ⟨c0,c1,rM⟩
       clear hK K m0 m1 m2 m3 m4 m5;try simp only [Act.put,sA,sZ,sS,gA,gZ,gS]
       refine r3 4 fun K hK=>?_
       ·go_simp;refine (uh CN _).mono ?_;rintro e w5 ⟨rfl,hb5⟩;have B5:Below q4.heap.size q4 w5:=(zC _ _).drew.trans hb5;clear hb5;go_wp2_with fail
        refine hK.out _ _ ?_ (fun hH12=>?_)
        ·exact ⟨(B5.cell (p:=⟨N1,0,none⟩) hn1).trans c0,(B5.cell (p:=⟨N1,1,none⟩) hn1).trans c1,(B5.cell (p:=⟨N2,3,none⟩) hn2).trans rM⟩
        clear hK K;try simp only [Act.put,sA,sZ,sS,gA,gZ,gS]
        refine r3 5 fun K hK=>?_
        ·go_simp;refine (uh HJ2 _).mono ?_;rintro e w6 ⟨rfl,hb6⟩;have B6:Below q4.heap.size q4 w6:=B5.trans (hb6.mono B5.size);clear hb6;go_wp2_with fail
         refine hK.out _ _ ?_ (fun hH13=>?_)
         ·exact ⟨(B6.cell (p:=⟨N1,0,none⟩) hn1).trans c0,(B6.cell (p:=⟨N1,1,none⟩) hn1).trans c1,(B6.cell (p:=⟨N2,3,none⟩) hn2).trans rM⟩
         clear hK K;try simp only [Act.put,sA,sZ,sS,gA,gZ,gS]
         refine r3 7 fun K hK=>?_
         ·go_simp;refine (uh CO _).mono ?_;rintro e w7 ⟨rfl,hb7⟩;have B7:Below q4.heap.size q4 w7:=B6.trans (hb7.mono B6.size);clear hb7;go_wp2_with fail
          refine hK.out _ _ ?_ (fun hH14=>?_)
          ·exact ⟨(B7.cell (p:=⟨N1,0,none⟩) hn1).trans c0,(B7.cell (p:=⟨N1,1,none⟩) hn1).trans c1,(B7.cell (p:=⟨N2,3,none⟩) hn2).trans rM⟩
          clear hK K;try simp only [Act.put,sA,sZ,sS,gA,gZ,gS]
          refine r3 8 fun K hK=>?_
          ·have h7:=(uh HV4).1.step B7;obtain ⟨m0,m1,m2,m3,m4,m5⟩:=aJ h7.x;obtain ⟨f0',f1',f2',f3',f4',f5'⟩:=eh h7.x;have HL:=aa (h7.put hM (an (aD kd y nx) y));clear h7;go_simp;refine hK.out _ _ ?_ (fun hH15=>?_)
           ·have TT:=fun p (hp:p.block≠w.heap.size)=>de (W:=w7) (E:=w.heap.size) p hp (.int .i64 (an (aD kd y nx) y).m) (.int .i64 (an (aD kd y nx) y).a) (.int .i64 (an (aD kd y nx) y).g) (.bool (an (aD kd y nx) y).p) (.bool (an (aD kd y nx) y).c) (.bool (an (aD kd y nx) y).d)
            exact ⟨(TT ⟨N1,0,none⟩ n1X).trans ((B7.cell (p:=⟨N1,0,none⟩) hn1).trans c0),(TT ⟨N1,1,none⟩ n1X).trans ((B7.cell (p:=⟨N1,1,none⟩) hn1).trans c1),(TT ⟨N2,3,none⟩ n2X).trans ((B7.cell (p:=⟨N2,3,none⟩) hn2).trans rM)⟩
           clear hK K;try simp only [Act.put,sA,sZ,sS,gA,gZ,gS]
           refine dn ?_ _;go_wp2_with fail
           go_roundw
           case rel=>exact ⟨i+1,by omega,by go_num,by rw [uh HSN];exact uh HL⟩
           case measure=>simp [intOf];omega
     ·go_simp;refine (uh CN _).mono ?_;rintro e w5 ⟨rfl,hb5⟩;have B5:Below q4.heap.size q4 w5:=(zC _ _).drew.trans hb5;clear hb5;go_wp2_with fail
      refine hK.out _ _ ?_ (fun hH16=>?_)
      ·exact ⟨(B5.cell (p:=⟨N1,0,none⟩) hn1).trans c0,(B5.cell (p:=⟨N1,1,none⟩) hn1).trans c1,(B5.cell (p:=⟨N2,3,none⟩) hn2).trans rM⟩
      clear hK K;try simp only [Act.put,sA,sZ,sS,gA,gZ,gS]
      refine r4 2 6 (fun K hK=>?_) (fun K hK=>?_)
      ·obtain ⟨m0,m1,m2,m3,m4,m5⟩:=aJ ((uh HV4).1.step B5).x;go_simp;refine hK.out _ _ ?_ (fun hH17=>?_)
       ·exact ⟨(B5.cell (p:=⟨N1,0,none⟩) hn1).trans c0,(B5.cell (p:=⟨N1,1,none⟩) hn1).trans c1,(B5.cell (p:=⟨N2,3,none⟩) hn2).trans rM⟩
       clear hK K m0 m1 m2 m3 m4 m5;try simp only [Act.put,sA,sZ,sS,gA,gZ,gS]
       refine r4 5 6 (fun K hK=>?_) (fun K hK=>?_)
       ·go_simp;refine (uh HJ2 _).mono ?_;rintro e w6 ⟨rfl,hb6⟩;have B6:Below q4.heap.size q4 w6:=B5.trans (hb6.mono B5.size);clear hb6;go_wp2_with fail
        refine hK.out _ _ ?_ (fun hH18=>?_)
        ·exact ⟨(B6.cell (p:=⟨N1,0,none⟩) hn1).trans c0,(B6.cell (p:=⟨N1,1,none⟩) hn1).trans c1,(B6.cell (p:=⟨N2,3,none⟩) hn2).trans rM⟩
        clear hK K;try simp only [Act.put,sA,sZ,sS,gA,gZ,gS]
        refine r3 6 fun K hK=>?_
        ·obtain ⟨m0,m1,m2,m3,m4,m5⟩:=aJ ((uh HV4).1.step B6).x;go_simp;refine hK.out _ _ ?_ (fun hH19=>?_)
         ·exact ⟨(B6.cell (p:=⟨N1,0,none⟩) hn1).trans c0,(B6.cell (p:=⟨N1,1,none⟩) hn1).trans c1,(B6.cell (p:=⟨N2,3,none⟩) hn2).trans rM⟩
         clear hK K m0 m1 m2 m3 m4 m5;try simp only [Act.put,sA,sZ,sS,gA,gZ,gS]
         refine r3 7 fun K hK=>?_
         ·go_simp;refine (uh CO _).mono ?_;rintro e w7 ⟨rfl,hb7⟩;have B7:Below q4.heap.size q4 w7:=B6.trans (hb7.mono B6.size);clear hb7;go_wp2_with fail
          refine hK.out _ _ ?_ (fun hH20=>?_)
          ·exact ⟨(B7.cell (p:=⟨N1,0,none⟩) hn1).trans c0,(B7.cell (p:=⟨N1,1,none⟩) hn1).trans c1,(B7.cell (p:=⟨N2,3,none⟩) hn2).trans rM⟩
          clear hK K;try simp only [Act.put,sA,sZ,sS,gA,gZ,gS]
          refine r3 8 fun K hK=>?_
          ·have h7:=(uh HV4).1.step B7;obtain ⟨m0,m1,m2,m3,m4,m5⟩:=aJ h7.x;obtain ⟨f0',f1',f2',f3',f4',f5'⟩:=eh h7.x;have HL:=aa (h7.put hM (an (aD kd y nx) y));clear h7;go_simp;refine hK.out _ _ ?_ (fun hH21=>?_)
           ·have TT:=fun p (hp:p.block≠w.heap.size)=>de (W:=w7) (E:=w.heap.size) p hp (.int .i64 (an (aD kd y nx) y).m) (.int .i64 (an (aD kd y nx) y).a) (.int .i64 (an (aD kd y nx) y).g) (.bool (an (aD kd y nx) y).p) (.bool (an (aD kd y nx) y).c) (.bool (an (aD kd y nx) y).d)
            exact ⟨(TT ⟨N1,0,none⟩ n1X).trans ((B7.cell (p:=⟨N1,0,none⟩) hn1).trans c0),(TT ⟨N1,1,none⟩ n1X).trans ((B7.cell (p:=⟨N1,1,none⟩) hn1).trans c1),(TT ⟨N2,3,none⟩ n2X).trans ((B7.cell (p:=⟨N2,3,none⟩) hn2).trans rM)⟩
           clear hK K;try simp only [Act.put,sA,sZ,sS,gA,gZ,gS]
           refine dn ?_ _;go_wp2_with fail
           go_roundw
           case rel=>exact ⟨i+1,by omega,by go_num,by rw [uh HSN];exact uh HL⟩
           case measure=>simp [intOf];omega
       ·obtain ⟨m0,m1,m2,m3,m4,m5⟩:=aJ ((uh HV4).1.step B5).x;go_simp;refine hK.out _ _ ?_ (fun hH22=>?_)
        ·exact ⟨(B5.cell (p:=⟨N1,0,none⟩) hn1).trans c0,(B5.cell (p:=⟨N1,1,none⟩) hn1).trans c1,(B5.cell (p:=⟨N2,3,none⟩) hn2).trans rM⟩
        clear hK K m0 m1 m2 m3 m4 m5;try simp only [Act.put,sA,sZ,sS,gA,gZ,gS]
        refine r3 5 fun K hK=>?_
        ·go_simp;refine (uh HJ2 _).mono ?_;rintro e w6 ⟨rfl,hb6⟩;have B6:Below q4.heap.size q4 w6:=B5.trans (hb6.mono B5.size);clear hb6;go_wp2_with fail
         refine hK.out _ _ ?_ (fun hH23=>?_)
         ·exact ⟨(B6.cell (p:=⟨N1,0,none⟩) hn1).trans c0,(B6.cell (p:=⟨N1,1,none⟩) hn1).trans c1,(B6.cell (p:=⟨N2,3,none⟩) hn2).trans rM⟩
         clear hK K;try simp only [Act.put,sA,sZ,sS,gA,gZ,gS]
         refine r3 7 fun K hK=>?_
         ·go_simp;refine (uh CO _).mono ?_;rintro e w7 ⟨rfl,hb7⟩;have B7:Below q4.heap.size q4 w7:=B6.trans (hb7.mono B6.size);clear hb7;go_wp2_with fail
          refine hK.out _ _ ?_ (fun hH24=>?_)
          ·exact ⟨(B7.cell (p:=⟨N1,0,none⟩) hn1).trans c0,(B7.cell (p:=⟨N1,1,none⟩) hn1).trans c1,(B7.cell (p:=⟨N2,3,none⟩) hn2).trans rM⟩
          clear hK K;try simp only [Act.put,sA,sZ,sS,gA,gZ,gS]
          refine r3 8 fun K hK=>?_
          ·have h7:=(uh HV4).1.step B7;obtain ⟨m0,m1,m2,m3,m4,m5⟩:=aJ h7.x;obtain ⟨f0',f1',f2',f3',f4',f5'⟩:=eh h7.x;have HL:=aa (h7.put hM (an (aD kd y nx) y));clear h7;go_simp;refine hK.out _ _ ?_ (fun hH25=>?_)
           ·have TT:=fun p (hp:p.block≠w.heap.size)=>de (W:=w7) (E:=w.heap.size) p hp (.int .i64 (an (aD kd y nx) y).m) (.int .i64 (an (aD kd y nx) y).a) (.int .i64 (an (aD kd y nx) y).g) (.bool (an (aD kd y nx) y).p) (.bool (an (aD kd y nx) y).c) (.bool (an (aD kd y nx) y).d)
            exact ⟨(TT ⟨N1,0,none⟩ n1X).trans ((B7.cell (p:=⟨N1,0,none⟩) hn1).trans c0),(TT ⟨N1,1,none⟩ n1X).trans ((B7.cell (p:=⟨N1,1,none⟩) hn1).trans c1),(TT ⟨N2,3,none⟩ n2X).trans ((B7.cell (p:=⟨N2,3,none⟩) hn2).trans rM)⟩
           clear hK K;try simp only [Act.put,sA,sZ,sS,gA,gZ,gS]
           refine dn ?_ _;go_wp2_with fail
           go_roundw
           case rel=>exact ⟨i+1,by omega,by go_num,by rw [uh HSN];exact uh HL⟩
           case measure=>simp [intOf];omega
      ·obtain ⟨m0,m1,m2,m3,m4,m5⟩:=aJ ((uh HV4).1.step B5).x;go_simp;refine hK.out _ _ ?_ (fun hH26=>?_)
       ·exact ⟨(B5.cell (p:=⟨N1,0,none⟩) hn1).trans c0,(B5.cell (p:=⟨N1,1,none⟩) hn1).trans c1,(B5.cell (p:=⟨N2,3,none⟩) hn2).trans rM⟩
       clear hK K m0 m1 m2 m3 m4 m5;try simp only [Act.put,sA,sZ,sS,gA,gZ,gS]
       refine r3 2 fun K hK=>?_
       ·obtain ⟨m0,m1,m2,m3,m4,m5⟩:=aJ ((uh HV4).1.step B5).x;go_simp;refine hK.out _ _ ?_ (fun hH27=>?_)
        ·exact ⟨(B5.cell (p:=⟨N1,0,none⟩) hn1).trans c0,(B5.cell (p:=⟨N1,1,none⟩) hn1).trans c1,(B5.cell (p:=⟨N2,3,none⟩) hn2).trans rM⟩
        clear hK K m0 m1 m2 m3 m4 m5;try simp only [Act.put,sA,sZ,sS,gA,gZ,gS]
        refine r3 5 fun K hK=>?_
        ·go_simp;refine (uh HJ2 _).mono ?_;rintro e w6 ⟨rfl,hb6⟩;have B6:Below q4.heap.size q4 w6:=B5.trans (hb6.mono B5.size);clear hb6;go_wp2_with fail
         refine hK.out _ _ ?_ (fun hH28=>?_)
         ·exact ⟨(B6.cell (p:=⟨N1,0,none⟩) hn1).trans c0,(B6.cell (p:=⟨N1,1,none⟩) hn1).trans c1,(B6.cell (p:=⟨N2,3,none⟩) hn2).trans rM⟩
         clear hK K;try simp only [Act.put,sA,sZ,sS,gA,gZ,gS]
         refine r3 7 fun K hK=>?_
         ·go_simp;refine (uh CO _).mono ?_;rintro e w7 ⟨rfl,hb7⟩;have B7:Below q4.heap.size q4 w7:=B6.trans (hb7.mono B6.size);clear hb7;go_wp2_with fail
          refine hK.out _ _ ?_ (fun hH29=>?_)
          ·exact ⟨(B7.cell (p:=⟨N1,0,none⟩) hn1).trans c0,(B7.cell (p:=⟨N1,1,none⟩) hn1).trans c1,(B7.cell (p:=⟨N2,3,none⟩) hn2).trans rM⟩
          clear hK K;try simp only [Act.put,sA,sZ,sS,gA,gZ,gS]
          refine r3 8 fun K hK=>?_
          ·have h7:=(uh HV4).1.step B7;obtain ⟨m0,m1,m2,m3,m4,m5⟩:=aJ h7.x;obtain ⟨f0',f1',f2',f3',f4',f5'⟩:=eh h7.x;have HL:=aa (h7.put hM (an (aD kd y nx) y));clear h7;go_simp;refine hK.out _ _ ?_ (fun hH30=>?_)
           ·have TT:=fun p (hp:p.block≠w.heap.size)=>de (W:=w7) (E:=w.heap.size) p hp (.int .i64 (an (aD kd y nx) y).m) (.int .i64 (an (aD kd y nx) y).a) (.int .i64 (an (aD kd y nx) y).g) (.bool (an (aD kd y nx) y).p) (.bool (an (aD kd y nx) y).c) (.bool (an (aD kd y nx) y).d)
            exact ⟨(TT ⟨N1,0,none⟩ n1X).trans ((B7.cell (p:=⟨N1,0,none⟩) hn1).trans c0),(TT ⟨N1,1,none⟩ n1X).trans ((B7.cell (p:=⟨N1,1,none⟩) hn1).trans c1),(TT ⟨N2,3,none⟩ n2X).trans ((B7.cell (p:=⟨N2,3,none⟩) hn2).trans rM)⟩
           clear hK K;try simp only [Act.put,sA,sZ,sS,gA,gZ,gS]
           refine dn ?_ _;go_wp2_with fail
           go_roundw
           case rel=>exact ⟨i+1,by omega,by go_num,by rw [uh HSN];exact uh HL⟩
           case measure=>simp [intOf];omega
     ·obtain ⟨m0,m1,m2,m3,m4,m5⟩:=aJ (uh HV4).1.x;go_simp;refine hK.out _ _ ?_ (fun hH31=>?_)
      ·exact ⟨c0,c1,rM⟩
      clear hK K m0 m1 m2 m3 m4 m5;try simp only [Act.put,sA,sZ,sS,gA,gZ,gS]
      refine r4 2 4 (fun K hK=>?_) (fun K hK=>?_)
      ·obtain ⟨m0,m1,m2,m3,m4,m5⟩:=aJ (uh HV4).1.x;go_simp;refine hK.out _ _ ?_ (fun hH32=>?_)
       ·exact ⟨c0,c1,rM⟩
       clear hK K m0 m1 m2 m3 m4 m5;try simp only [Act.put,sA,sZ,sS,gA,gZ,gS]
       refine r3 4 fun K hK=>?_
       ·go_simp;refine (uh CN _).mono ?_;rintro e w5 ⟨rfl,hb5⟩;have B5:Below q4.heap.size q4 w5:=(zC _ _).drew.trans hb5;clear hb5;go_wp2_with fail
        refine hK.out _ _ ?_ (fun hH33=>?_)
        ·exact ⟨(B5.cell (p:=⟨N1,0,none⟩) hn1).trans c0,(B5.cell (p:=⟨N1,1,none⟩) hn1).trans c1,(B5.cell (p:=⟨N2,3,none⟩) hn2).trans rM⟩
        clear hK K;try simp only [Act.put,sA,sZ,sS,gA,gZ,gS]
        refine r3 5 fun K hK=>?_
        ·go_simp;refine (uh HJ2 _).mono ?_;rintro e w6 ⟨rfl,hb6⟩;have B6:Below q4.heap.size q4 w6:=B5.trans (hb6.mono B5.size);clear hb6;go_wp2_with fail
         refine hK.out _ _ ?_ (fun hH34=>?_)
         ·exact ⟨(B6.cell (p:=⟨N1,0,none⟩) hn1).trans c0,(B6.cell (p:=⟨N1,1,none⟩) hn1).trans c1,(B6.cell (p:=⟨N2,3,none⟩) hn2).trans rM⟩
         clear hK K;try simp only [Act.put,sA,sZ,sS,gA,gZ,gS]
         refine r3 7 fun K hK=>?_
         ·go_simp;refine (uh CO _).mono ?_;rintro e w7 ⟨rfl,hb7⟩;have B7:Below q4.heap.size q4 w7:=B6.trans (hb7.mono B6.size);clear hb7;go_wp2_with fail
          refine hK.out _ _ ?_ (fun hH35=>?_)
          ·exact ⟨(B7.cell (p:=⟨N1,0,none⟩) hn1).trans c0,(B7.cell (p:=⟨N1,1,none⟩) hn1).trans c1,(B7.cell (p:=⟨N2,3,none⟩) hn2).trans rM⟩
          clear hK K;try simp only [Act.put,sA,sZ,sS,gA,gZ,gS]
          refine r3 8 fun K hK=>?_
          ·have h7:=(uh HV4).1.step B7;obtain ⟨m0,m1,m2,m3,m4,m5⟩:=aJ h7.x;obtain ⟨f0',f1',f2',f3',f4',f5'⟩:=eh h7.x;have HL:=aa (h7.put hM (an (aD kd y nx) y));clear h7;go_simp;refine hK.out _ _ ?_ (fun hH36=>?_)
           ·have TT:=fun p (hp:p.block≠w.heap.size)=>de (W:=w7) (E:=w.heap.size) p hp (.int .i64 (an (aD kd y nx) y).m) (.int .i64 (an (aD kd y nx) y).a) (.int .i64 (an (aD kd y nx) y).g) (.bool (an (aD kd y nx) y).p) (.bool (an (aD kd y nx) y).c) (.bool (an (aD kd y nx) y).d)
            exact ⟨(TT ⟨N1,0,none⟩ n1X).trans ((B7.cell (p:=⟨N1,0,none⟩) hn1).trans c0),(TT ⟨N1,1,none⟩ n1X).trans ((B7.cell (p:=⟨N1,1,none⟩) hn1).trans c1),(TT ⟨N2,3,none⟩ n2X).trans ((B7.cell (p:=⟨N2,3,none⟩) hn2).trans rM)⟩
           clear hK K;try simp only [Act.put,sA,sZ,sS,gA,gZ,gS]
           refine dn ?_ _;go_wp2_with fail
           go_roundw
           case rel=>exact ⟨i+1,by omega,by go_num,by rw [uh HSN];exact uh HL⟩
           case measure=>simp [intOf];omega
      ·go_simp;refine (uh CN _).mono ?_;rintro e w5 ⟨rfl,hb5⟩;have B5:Below q4.heap.size q4 w5:=(zC _ _).drew.trans hb5;clear hb5;go_wp2_with fail
       refine hK.out _ _ ?_ (fun hH37=>?_)
       ·exact ⟨(B5.cell (p:=⟨N1,0,none⟩) hn1).trans c0,(B5.cell (p:=⟨N1,1,none⟩) hn1).trans c1,(B5.cell (p:=⟨N2,3,none⟩) hn2).trans rM⟩
       clear hK K;try simp only [Act.put,sA,sZ,sS,gA,gZ,gS]
       refine r3 2 fun K hK=>?_
       ·obtain ⟨m0,m1,m2,m3,m4,m5⟩:=aJ ((uh HV4).1.step B5).x;go_simp;refine hK.out _ _ ?_ (fun hH38=>?_)
        ·exact ⟨(B5.cell (p:=⟨N1,0,none⟩) hn1).trans c0,(B5.cell (p:=⟨N1,1,none⟩) hn1).trans c1,(B5.cell (p:=⟨N2,3,none⟩) hn2).trans rM⟩
        clear hK K m0 m1 m2 m3 m4 m5;try simp only [Act.put,sA,sZ,sS,gA,gZ,gS]
        refine r3 5 fun K hK=>?_
        ·go_simp;refine (uh HJ2 _).mono ?_;rintro e w6 ⟨rfl,hb6⟩;have B6:Below q4.heap.size q4 w6:=B5.trans (hb6.mono B5.size);clear hb6;go_wp2_with fail
         refine hK.out _ _ ?_ (fun hH39=>?_)
         ·exact ⟨(B6.cell (p:=⟨N1,0,none⟩) hn1).trans c0,(B6.cell (p:=⟨N1,1,none⟩) hn1).trans c1,(B6.cell (p:=⟨N2,3,none⟩) hn2).trans rM⟩
         clear hK K;try simp only [Act.put,sA,sZ,sS,gA,gZ,gS]
         refine r3 7 fun K hK=>?_
         ·go_simp;refine (uh CO _).mono ?_;rintro e w7 ⟨rfl,hb7⟩;have B7:Below q4.heap.size q4 w7:=B6.trans (hb7.mono B6.size);clear hb7;go_wp2_with fail
          refine hK.out _ _ ?_ (fun hH40=>?_)
          ·exact ⟨(B7.cell (p:=⟨N1,0,none⟩) hn1).trans c0,(B7.cell (p:=⟨N1,1,none⟩) hn1).trans c1,(B7.cell (p:=⟨N2,3,none⟩) hn2).trans rM⟩
          clear hK K;try simp only [Act.put,sA,sZ,sS,gA,gZ,gS]
          refine r3 8 fun K hK=>?_
          ·have h7:=(uh HV4).1.step B7;obtain ⟨m0,m1,m2,m3,m4,m5⟩:=aJ h7.x;obtain ⟨f0',f1',f2',f3',f4',f5'⟩:=eh h7.x;have HL:=aa (h7.put hM (an (aD kd y nx) y));clear h7;go_simp;refine hK.out _ _ ?_ (fun hH41=>?_)
           ·have TT:=fun p (hp:p.block≠w.heap.size)=>de (W:=w7) (E:=w.heap.size) p hp (.int .i64 (an (aD kd y nx) y).m) (.int .i64 (an (aD kd y nx) y).a) (.int .i64 (an (aD kd y nx) y).g) (.bool (an (aD kd y nx) y).p) (.bool (an (aD kd y nx) y).c) (.bool (an (aD kd y nx) y).d)
            exact ⟨(TT ⟨N1,0,none⟩ n1X).trans ((B7.cell (p:=⟨N1,0,none⟩) hn1).trans c0),(TT ⟨N1,1,none⟩ n1X).trans ((B7.cell (p:=⟨N1,1,none⟩) hn1).trans c1),(TT ⟨N2,3,none⟩ n2X).trans ((B7.cell (p:=⟨N2,3,none⟩) hn2).trans rM)⟩
           clear hK K;try simp only [Act.put,sA,sZ,sS,gA,gZ,gS]
           refine dn ?_ _;go_wp2_with fail
           go_roundw
           case rel=>exact ⟨i+1,by omega,by go_num,by rw [uh HSN];exact uh HL⟩
           case measure=>simp [intOf];omega
   ·have CR:=aa (gW M kd dt q1 hS1.m hf);rw [if_neg (by rw [hs];intro e;cases e)] at HSN;clear hS1 hf;go_wp2_with fail
    refine (uh CR).mono ?_;rintro e w3' ⟨rfl,hb3⟩;have HV3:=aa ((uh HV1).1.step hb3);clear hb3 HV1 hl1 c0 c1 CR;go_wp2_with fail
    go_roundw
    case rel=>exact ⟨i+1,by omega,by go_num,by rw [uh HSN];exact (uh HV3).step ((zC _ _).alloc (zD _) _)⟩
    case measure=>simp [intOf];omega
  ·have e:i=n:=by omega
   subst e;have d1:¬ ((i:Int)<(i:Int)):=by omega
   rw [uh HTL,uh HR] at hS;obtain ⟨m0,m1,m2,m3,m4,m5⟩:=aJ hS.x;obtain ⟨r0,r1,r2,rM,rN,r5⟩:=aJ hS.r;obtain ⟨f0,f1,f2,f3,f4,f5⟩:=eh hS.r;have HS:=aa hS;clear hS HAT HFO HTL HR;go_wp2
   exact bodyPost_ret (v:=.agg (dr R)) (by simp [results,results139,asAddr,jU (dP (uh HS).r (.int .i64 R.m) (.int .i64 R.a) (.int .i64 R.g) (.bool R.p) (.bool R.c) (.bool R.d))]) rfl ⟨rfl,cv (uh HS).b (by omega) _ _ _ _ _ _⟩
end Go.Proofs.YtjdgiimfpkideaaGreatDoor
