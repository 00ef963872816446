/- SpecRep2 RepF WkL HrK -/
import Derived.Test.YtjdgiimfpkideaaGreatDoorS22
import Derived.Test.YtjdgiimfpkideaaGreatDoorS10
import Derived.Lib.SliceRun
set_option maxHeartbeats 8000000
set_option maxRecDepth 100000
namespace Go.Proofs.YtjdgiimfpkideaaGreatDoor
open Go.RowKit Go.Proofs.Tryz
def nS(b:Bool)(x:Int):Int:=if b then 4 else x
def nU(b:Bool)(t u:ByteArray):ByteArray:=if b then t else u
theorem oJ(m a g:Nat)(p c d:Bool)(l:List Op.Opt)(k:Int)(t:ByteArray):gB m a g p c d l ⟨k,t⟩=(nS (cQ k l) (one m a g p c d ⟨k,t⟩).1,⟨k,nU (cQ k l) t (one m a g p c d ⟨k,t⟩).2.data⟩):=by
 unfold gB;cases h:cQ k l
 .rw [if_neg (by simp)];unfold one;split<;>rfl
 .rw [if_pos rfl];rfl
theorem mW(k:Int)(L:List Op.Opt)(i:Nat)(hi:i<L.length):cQ k (L.take (i+1))=(cQ k (L.take i)||L[i].kind==k):=by
 unfold cQ;rw[List.take_succ_eq_append_getElem hi,List.any_append];simp
theorem mX(m a g:Nat)(p c d:Bool)(L:List Op.Opt)(ad:Option Addr)(cp:Nat)(w:World)(hL:HoldsO w (ad,L.length,cp) L)(hc:aK m a g=true)(hr:Op.right L=true):Calls prog 109 #[cN m a g p c d,(ad,L.length,cp)] w fun e w'=>∃ad' cp',e=.returned (.agg #[.int .i64 (mx (b_ m a g p c d L)),.slice ad' (fl (mx (b_ m a g p c d L)) (b_ m a g p c d L)).length cp'])/\w'.ownsRow w 105 2 (.slice ad' (fl (mx (b_ m a g p c d L)) (b_ m a g p c d L)).length cp') (fl (mx (b_ m a g p c d L)) (b_ m a g p c d L)).length (aj (fl (mx (b_ m a g p c d L)) (b_ m a g p c d L)))/\Below w w w':=by
 have hl20:=Op.right_len hr;have hm:L.length<=maxLen:=by unfold maxLen;omega
 obtain⟨ha,hg⟩:=pP hc;have C1:=aa fun q=>dO m a g p c d q
 have C2:=aa fun q (hq:Below w w q)=>nA (ad,L.length,cp) L q hm (hL.below hq rfl)
 rw[hc]at C1;rw[hr]at C2;have hfin:=sL m a g p c d L;unfold b_;obtain⟨X,hX⟩ := ex (mx (dL m a g p c d L L.length));rw[hX]at hfin|-;obtain⟨F,hF⟩ := ex (fl X (dL m a g p c d L L.length));rw[hF];have HFin:Hid ((fl 4 (dL m a g p c d L L.length)≠[]->X=4/\F=fl 4 (dL m a g p c d L L.length))/\(fl 4 (dL m a g p c d L L.length)=[]->fl 3 (dL m a g p c d L L.length)≠[]->X=3/\F=fl 3 (dL m a g p c d L L.length))/\(fl 4 (dL m a g p c d L L.length)=[]->fl 3 (dL m a g p c d L L.length)=[]->X=2/\F=L)):=by
  refine aa ⟨fun h=>?_,fun h1 h2=>?_,fun h1 h2=>?_⟩
  .have e:=hfin.1 h;exact⟨e,by rw[<- hF,e]⟩
  .have e:=hfin.2.1 h1 h2;exact⟨e,by rw[<- hF,e]⟩
  .have e:=hfin.2.2 h1 h2;exact⟨e.1,by rw[<- hF,e.1];exact e.2⟩
 clear hfin hX hF;obtain⟨n,hn⟩ := ex L.length;have HL:Hid (∀i (hi:i<n),∃gL,ad=some ⟨gL,0,none⟩/\gL<w.heap.size/\w.cell? ⟨gL,i*2,none⟩=some (.int .i64 (L[i]'(by omega)).kind)/\w.cell? ⟨gL,i*2+1,none⟩=some (.string (L[i]'(by omega)).data)):=by
  refine aa fun i hi=>?_
  rcases hL with⟨_,_,_,e⟩|⟨gL,cp',cur,e,h2,h3,h4⟩
  .rw [e]at hn;simp at hn;omega
  .cases e;have q:=bW L i (L[i]'(by omega)) (List.getElem?_eq_getElem (by omega));exact⟨gL,rfl,(ge.1 h2).1,by rw[cr h2];exact(h4 _ (by omega)).trans q.1,by rw[cr h2];exact(h4 _ (by omega)).trans q.2⟩
 have HK:Hid (∀i (hi:i<n),(L[i]'(by omega)).data.size<=20):=by
  refine aa fun i hi=>?_
  have:=of_decide_eq_true (Op.right_all hr (L[i]'(by omega)) (List.getElem_mem _))
  exact this.2.2
 have HLO:=aa hL;obtain⟨hs,q0,q1,hb0⟩:=br w (.cells #[m,a,g,p,c,d] 24) (.cells #[(0:Int),()] 97);have HQ:=aa (zA hs (zA q0 (zA q1 hb0)));rw[hn]at HFin hl20 C2 HLO|-;clear hs q0 q1 hb0 hL hc hr hm;go_enter func109,ntmps109
 go_wp2_with fail
 refine(uh C1 _).mono ?_;rintro e w1⟨rfl,hb1⟩;have hB1:=HQ.out.2.2.2.trans (hb1.mono (by rw[HQ.out.1];omega));have hr1:=(hb1.block (w.heap.size+1) (by rw[HQ.out.1];omega)).trans HQ.out.2.2.1;have hc1:=(hb1.block w (by rw[HQ.out.1];omega)).trans HQ.out.2.1;have H1:=aa (zA hB1 (zA hr1 hc1));clear hB1 hr1 hb1 HQ hc1 C1;go_wp2_with fail
 refine(uh C2 _ H1.out.1).mono ?_;rintro e w2⟨rfl,hb2⟩;have hB2:=H1.out.1.trans (hb2.mono H1.out.1.size);have hr2:=(hb2.block (w.heap.size+1) (ge.1 H1.out.2.1).1).trans H1.out.2.1;have hc2:=(hb2.block w (ge.1 H1.out.2.2).1).trans H1.out.2.2;have hl2:w.heap.size+1<w2.heap.size:=(ge.1 hr2).1;have HS:Hid (RpS w w2.heap.size #[m,a,g,p,c,d] () () [] [] ((w2.alloc (.cells #[(3:Int),()] 97)).alloc (.cells #[(4:Int),()] 97))):=by
  obtain⟨_,e2,e3,e4⟩:=br w2 (.cells #[(3:Int),()] 97) (.cells #[(4:Int),()] 97);exact aa ⟨(e4.block _ (by omega)).trans hc2,(e4.block _ hl2).trans hr2,e2,e3,hB2.trans (e4.mono hB2.size),⟨rfl,Or.inl ⟨rfl,rfl⟩⟩,⟨rfl,Or.inl ⟨rfl,rfl⟩⟩,(fun g h=>by cases h),hl2⟩
 clear hB2 hr2 hc2 hb2 H1 C2;go_upto_region 5 with fail
 refine bb _ HS.out ?_;clear HS;rintro q0 hq0;generalize w2.heap.size=N at*;go_wp2_with fail
 go_loopw [7] (fun y wr=>∃(i:Nat)(adn:Option Addr)(cpn:Nat)(adr:Option Addr)(cpr:Nat),i<=n/\y=.int .i64 i/\RpS w N #[m,a,g,p,c,d] (.slice adn (fl 3 (dL m a g p c d L i)).length cpn) (.slice adr (fl 4 (dL m a g p c d L i)).length cpr) (fl 3 (dL m a g p c d L i)) (fl 4 (dL m a g p c d L i)) wr) (fun y _=>n-(intOf y).toNat)
 case atStart=>exact⟨0,none,0,none,0,Nat.zero_le _,rfl,hq0⟩
 case round =>
  obtain⟨i,adn,cpn,adr,cpr,hi,rfl,hV⟩:=hrel;clear hq0;by_cases hlt:i<n
  .clear HFin HLO;have d1:(i:Int)<(n:Int):=by omega
   have d0:(0:Int)<=(i:Int):=by omega
   have hltL:i<L.length:=by omega
   obtain⟨gL,rfl,hgl,k0,k1⟩:=uh HL i hlt;have hds:=uh HK i hlt;have HF3:=aa ((congrArg (fl 3) (fw m a g p c d L i)).trans (iC 3 _ _));have HF4:=aa ((congrArg (fl 4) (fw m a g p c d L i)).trans (iC 4 _ _));have HVC:=aa (Ak m a g p c d L i hltL);have hn3:(fl 3 (dL m a g p c d L i)).length<=20:=zE (kl _ _) (by rw[eq];omega);have hn4:(fl 4 (dL m a g p c d L i)).length<=20:=zE (kl _ _) (by rw[eq];omega);have HVD:Hid (eO m a g p c d L i=(nS (cQ (L[i]'hltL).kind (L.take i)) (one m a g p c d (L[i]'hltL)).1,⟨(L[i]'hltL).kind,nU (cQ (L[i]'hltL).kind (L.take i)) (L[i]'hltL).data (one m a g p c d (L[i]'hltL)).2.data⟩)):=aa ((gC m a g p c d L i hltL).trans (oJ m a g p c d (L.take i) (L[i]'hltL).kind (L[i]'hltL).data));have HKI:=aa fun k (hk:k<i)=>mW (L[i]'hltL).kind L k (by omega)
   have C:=aa fun v=>sJ m a g p c d (L[i]'hltL).kind (L[i]'hltL).data v ha hg hds
   generalize L[i]'hltL=o at*;obtain⟨kd,dt⟩:=o;dsimp only at k0 k1 hds HVD HKI C;generalize one m a g p c d ⟨kd,dt⟩=r1 at*;obtain⟨x1,k1',t1⟩:=r1;dsimp only[aQ]at HVD C;generalize fl 3 (dL m a g p c d L i)=Fn at*;generalize fl 4 (dL m a g p c d L i)=Fr at*;generalize eO m a g p c d L i=v at*;have hsz:=hV.size;have hNl:=hV.lt;have HW:=aa fun(q:World) (hq:Below w w q)=>zA ((hq.cell (p:=⟨gL,i*2,none⟩) hgl).trans k0) ((hq.cell (p:=⟨gL,i*2+1,none⟩) hgl).trans k1)
   have HV:=aa hV;clear hV k0 k1 hltL;go_upto_region 8 with fail
   go_cut [8,9] (fun u y wx=>∃X,u=.int .i64 x1/\y=.pointer (some (X,0))/\RpX w N #[m,a,g,p,c,d] (adn,Fn.length,cpn) (adr,Fr.length,cpr) Fn Fr kd t1 X wx)
   case first =>
    have hBw:=HV.out.b;have hws:=hBw.size;obtain⟨b0,b1,b2,b3,b4,b5⟩:=aJ HV.out.c;obtain⟨k0,k1⟩:=uh HW wr hBw;have e1:¬(w.heap.size=wr.heap.size):=by omega
    have e2:¬(wr.heap.size=w.heap.size):=by omega
    have e3:¬(gL=wr.heap.size):=by omega
    have e4:¬(wr.heap.size=gL):=by omega
    have HLL:Hid (wr.heap.size<(wr.drew.alloc (.cells #[(0:Int),.string ⟨#[]⟩] 105)).heap.size):=aa (by simp);clear hBw HF3 HF4 HVC HVD HKI HL HK
    go_region_held3 (fun z=>z.cell? (w,0)=some (.int .i64 m)/\z.cell? (w,1)=some (.int .i64 a)/\z.cell? (w,2)=some (.int .i64 g)/\z.cell? (w,3)=some (.bool p)/\z.cell? (w,4)=some (.bool c)/\z.cell? (w,5)=some (.bool d)/\z.cell? ⟨gL,i*2,none⟩=some (.int .i64 kd)/\z.cell? ⟨gL,i*2+1,none⟩=some (dt:V))
     (first|(exact uh K3)|(exact uh K4)|go_keep)
     (first
     | (go_at_call 128;refine(uh C (wr.drew.alloc (.cells #[(0:Int),.string ⟨#[]⟩] 105))).mono ?_;rintro e w3⟨rfl,hb3⟩
        have h3:RpX w N #[m,a,g,p,c,d] (adn,Fn.length,cpn) (adr,Fr.length,cpr) Fn Fr 0 ⟨#[]⟩ wr w3:=(RpX.new1 HV.out.drew (zC _ _) 0 ⟨#[]⟩).step hb3;obtain⟨b0,b1,b2,b3,b4,b5⟩:=aJ h3.s.c;obtain⟨k0,k1⟩:=uh HW w3 h3.s.b;obtain⟨o0,o1,f0,f1⟩:=av h3.x;have K3:=aa (zA b0 (zA b1 (zA b2 (zA b3 (zA b4 (zA b5 (zA k0 k1)))))));have H3:=aa h3;clear h3 hb3)
     | (go_at_call 128;refine(uh C wr.drew).mono ?_;rintro e w4⟨rfl,hb4⟩
        have h4:=HV.out.drew.step hb4;obtain⟨b0,b1,b2,b3,b4,b5⟩:=aJ h4.c;obtain⟨k0,k1⟩:=uh HW w4 h4.b;have hz4:=hb4.size;have e5:¬(w.heap.size=w4.heap.size):=by have:=h4.size;have:=h4.lt;omega
        have e6:¬(w4.heap.size=w.heap.size):=by have:=h4.size;have:=h4.lt;omega
        have e7:¬(gL=w4.heap.size):=by have:=h4.size;have:=h4.lt;omega
        have e8:¬(w4.heap.size=gL):=by have:=h4.size;have:=h4.lt;omega
        have K4:=aa (zA b0 (zA b1 (zA b2 (zA b3 (zA b4 (zA b5 (zA k0 k1)))))));have H4:=aa h4;clear h4 hb4 hz4))
    all_goals
     go_wp2_with fail
     go_meet
     first
      | exact⟨_,rfl,rfl,RpX.new1 H4.out (zC _ _) kd t1⟩
      | exact⟨_,rfl,rfl,H3.out.put kd t1⟩
   case rest =>
   obtain⟨X,hu8,hu9,hX⟩:=hcut;subst hu8 hu9;clear HV C;have HX:=aa hX;clear hX;go_wp2_with fail
   go_loopw [8,10] (fun u y wq=>∃(k:Nat),k<=i/\y=.int .i64 k/\u=.int .i64 (nS (cQ kd (L.take k)) x1)/\RpX w N #[m,a,g,p,c,d] (adn,Fn.length,cpn) (adr,Fr.length,cpr) Fn Fr kd (nU (cQ kd (L.take k)) dt t1) X wq) (fun _ y _=>i-(intOf y).toNat)
   case atStart=>exact⟨0,Nat.zero_le _,rfl,rfl,uh HX⟩
   case round =>
    obtain⟨k,hk,rfl,rfl,hX⟩:=hrel;clear HX;by_cases hlk:k<i
    .clear HF3 HF4 HVC HVD;have d2:(k:Int)<(i:Int):=by omega
     have d3:(k:Int)<(n:Int):=by omega
     have d4:(0:Int)<=(k:Int):=by omega
     obtain⟨gL',hgg,_,j0,_⟩:=uh HL k (by omega);cases hgg;replace j0:=(hX.s.b.cell (p:=⟨gL,k*2,none⟩) hgl).trans j0;obtain⟨k0,k1⟩:=uh HW wr hX.s.b;have HS:=aa (uh HKI k hlk);generalize (L[k]'(by omega)).kind=kk at*;have HX:=aa hX;clear hX HKI HL HK;generalize cQ kd (L.take k)=b1 at*;obtain⟨o0,o1,f0,f1⟩:=av HX.out.x;cases hq:(kk==kd)
     .rw [hq,Bool.or_false]at HS;go_wp2_with fail
      go_quiet (fail)
      go_wp2_with fail
      go_roundw
      case rel=>exact⟨k+1,by omega,by go_num,by rw[uh HS],by rw[uh HS];exact HX.out.drewN _⟩
      case measure=>simp[intOf];omega
     .rw [hq,Bool.or_true]at HS;go_wp2_with fail
      go_quiet (fail)
      go_wp2_with fail
      go_roundw
      case rel=>exact⟨k+1,by omega,by go_num,by rw[uh HS];rfl,by rw[uh HS];exact(HX.out.drewN _).put kd dt⟩
      case measure=>simp[intOf];omega
    .have e:k=i:=by omega
     subst e;have d2:¬((k:Int)<(k:Int)):=by omega
     have hvd:=uh HVD;generalize nS (cQ kd (L.take k)) x1=x at*;generalize nU (cQ kd (L.take k)) dt t1=t at*;subst hvd;dsimp only at HF3 HF4 HVC;obtain⟨o0,o1,_,_⟩:=av hX.x;obtain⟨n0,n1,g0,g1⟩:=av hX.s.n;obtain⟨j0,j1,h0,h1⟩:=av hX.s.j;have hs1:=hX.s.size;have HX:=aa hX;have HVX:Hid (x=2\/x=3\/x=4):=by
      rcases uh HVC with h|h|h
      .exact aa (Or.inl h.1)
      .exact aa (Or.inr (Or.inl h))
      .exact aa (Or.inr (Or.inr h))
     clear hX HVC HVD HKI HL HK HW;rcases uh HVX with rfl|rfl|rfl
     .go_wp2_with fail
      go_roundw
      case rel =>
       refine⟨k+1,adn,cpn,adr,cpr,by omega,by go_num,?_⟩;rw[uh HF3,uh HF4,if_neg (by decide),if_neg (by decide),List.append_nil,List.append_nil];exact HX.out.s
      case measure=>simp[intOf];omega
     .go_wp2_with (first
       | (at_builtin;refine fY rfl _ _ rfl (N+1+1) (adn,Fn.length,cpn) Fn Fn.length rfl rfl HX.out.s.on kd t rfl (by omega) hs1 ?_;rintro v6 w6 ho6 hg6 hat6;obtain⟨a6,c6,rfl⟩:=af ho6
          have hA6:=HX.out.s.appN ho6 hg6 hat6;have hn6:w6.heap[N]?=some (.cells #[(3:Int),(adn,Fn.length,cpn)] 97):=(hg6.block N (by simp;omega) (fun e=>by have:=(World.ownsRow.lt HX.out.s.on N e.symm).1;omega)).trans ((zG _ _ _ (by omega)).trans HX.out.s.n);obtain⟨n0,n1,g0,g1⟩:=av hn6;have HA6:=aa hA6;clear hA6 hn6 ho6 hg6 hat6))
      go_roundw
      case rel =>
       refine⟨k+1,a6,c6,adr,cpr,by omega,by go_num,?_⟩;rw[uh HF3,uh HF4,if_pos (by decide),if_neg (by decide),List.append_nil,List.length_append];exact uh HA6
      case measure=>simp[intOf];omega
     .go_wp2_with (first
       | (at_builtin;refine fY rfl _ _ rfl (N+1+1) (adr,Fr.length,cpr) Fr Fr.length rfl rfl HX.out.s.oj kd t rfl (by omega) hs1 ?_;rintro v6 w6 ho6 hg6 hat6;obtain⟨a6,c6,rfl⟩:=af ho6
          have hA6:=HX.out.s.appR ho6 hg6 hat6;have hn6:w6.heap[N+1]?=some (.cells #[(4:Int),(adr,Fr.length,cpr)] 97):=(hg6.block (N+1) (by simp;omega) (fun e=>by have:=(World.ownsRow.lt HX.out.s.oj (N+1) e.symm).1;omega)).trans ((zG _ _ _ (by omega)).trans HX.out.s.j);obtain⟨j0,j1,h0,h1⟩:=av hn6;have HA6:=aa hA6;clear hA6 hn6 ho6 hg6 hat6))
      go_roundw
      case rel =>
       refine⟨k+1,adn,cpn,a6,c6,by omega,by go_num,?_⟩;rw[uh HF3,uh HF4,if_neg (by decide),if_pos (by decide),List.append_nil,List.length_append];exact uh HA6
      case measure=>simp[intOf];omega
  .have e:i=n:=by omega
   subst e;have d1:¬((i:Int)<(i:Int)):=by omega
   obtain⟨n0,n1,_,_⟩:=av hV.n;obtain⟨j0,j1,_,_⟩:=av hV.j;obtain⟨r0,r1,f0,f1⟩:=av hV.r;have hsz:=hV.size;have hNl:=hV.lt;have HV:=aa hV;clear hV HL HK;generalize fl 3 (dL m a g p c d L i)=Fn at*;generalize fl 4 (dL m a g p c d L i)=Fr at*;by_cases h4:Fr=[]
   .have d4:¬((0:Int)<(Fr.length:Int)):=by rw[h4];simp
    by_cases h3:Fn=[]
    .have d3:¬((0:Int)<(Fn.length:Int)):=by rw[h3];simp
     obtain⟨hX,hF⟩:=HFin.out.2.2 h4 h3;subst hX;subst hF;clear HFin h4 h3;have hBA:Below w w (wr.alloc (.cells #[] 105)):=HV.out.b.alloc HV.out.b.size _;have hw0:(wr.alloc (.cells #[] 105)).ownsRow (N+1+1) 105 2 (.slice (some (wr,0)) 0 0) ([]:List Op.Opt).length (aj []):=World.ownsRow_lit wr #[] 0 hsz (Nat.zero_le _) rfl;have HW0:=aa (zA hBA (zA hw0 (HLO.out.below hBA rfl)));have HG:Hid (∀w6:World,(wr.alloc (.cells #[] 105)).grownBy w6 (Value.slice (some (wr,0)) 0 0).ownBlock->w6.heap[w.heap.size+1]?=some (.cells #[(0:Int),()] 97)/\Below w w w6):=aa fun w6 hg6=>by
      have hza:(wr.alloc (.cells #[] 105)).heap.size=wr.heap.size+1:=by simp
      refine⟨(hg6.block _ (by rw[hza];omega) (fun e=>?_)).trans ((zG _ _ _ (by omega)).trans HV.out.r),hBA.trans ⟨hg6.os,hg6.tape,hg6.output,hg6.size,fun q hq=>hg6.block q (by rw[hza];omega) (fun e=>?_)⟩⟩
      .have h9:w.heap.size+1=wr.heap.size:=Option.some.inj e;omega
      .have h9:q=wr.heap.size:=Option.some.inj e;omega
     have HFl:Hid (F.length<=1000):=aa (by omega);have HBs:Hid (N+1+1<=(wr.alloc (.cells #[] 105)).heap.size):=aa (by simp;omega);clear hBA hw0 HLO hn
     go_wp2_with (first
      | (at_builtin;refine fM rfl _ _ rfl (N+1+1) (.slice (some (wr,0)) 0 0) (ad,i,cp) [] F rfl rfl HW0.out.2.1 HW0.out.2.2 (Nat.zero_le _) (zE HFl.out (by decide)) HBs.out ?_;rintro v6 w6 ho6 hg6
         rw[List.nil_append]at ho6;obtain⟨a6,c6,rfl⟩:=af ho6;obtain⟨hr6,hb6⟩:=uh HG _ hg6;obtain⟨r0,r1,f0,f1⟩:=av hr6;have H6:=aa (zA hr6 (zA hb6 ho6));clear hr6 hb6 ho6 hg6))
     refine bodyPost_ret (v:=.agg #[(2:Int),(a6,F.length,c6)]) (by simp[results,results109,asAddr,dM (aM H6.out.1 (2:Int) (a6,F.length,c6))]) rfl ⟨a6,c6,rfl,?_,(H6.out.2.1.setCell (p:=(w.heap.size+1,0)) (Nat.le_succ _) _).setCell (p:=(w.heap.size+1,1)) (Nat.le_succ _) _⟩;refine dy (aY H6.out.2.2 fun q hq _=>?_) (by omega);rw[zJ _ _ _ _ (by simp;omega),zJ _ _ _ _ (by simp;omega)]
    .have d3:(0:Int)<(Fn.length:Int):=by have:=List.length_pos_iff.2 h3;omega
     obtain⟨hX,hF⟩:=HFin.out.2.1 h4 h3;subst hX;subst hF;clear HFin h4 h3 HLO;go_wp2
     refine bodyPost_ret (v:=.agg #[(3:Int),(adn,F.length,cpn)]) (by simp[results,results109,asAddr,dM (aM HV.out.r (3:Int) (adn,F.length,cpn))]) rfl ⟨adn,cpn,rfl,?_,(HV.out.b.setCell (p:=(w.heap.size+1,0)) (Nat.le_succ _) _).setCell (p:=(w.heap.size+1,1)) (Nat.le_succ _) _⟩;refine dy (aY HV.out.on fun q hq _=>?_) (by omega);rw[zJ _ _ _ _ (by simp;omega),zJ _ _ _ _ (by simp;omega)]
   .have d4:(0:Int)<(Fr.length:Int):=by have:=List.length_pos_iff.2 h4;omega
    obtain⟨hX,hF⟩:=HFin.out.1 h4;subst hX;subst hF;clear HFin h4 HLO;go_wp2
    refine bodyPost_ret (v:=.agg #[(4:Int),(adr,F.length,cpr)]) (by simp[results,results109,asAddr,dM (aM HV.out.r (4:Int) (adr,F.length,cpr))]) rfl ⟨adr,cpr,rfl,?_,(HV.out.b.setCell (p:=(w.heap.size+1,0)) (Nat.le_succ _) _).setCell (p:=(w.heap.size+1,1)) (Nat.le_succ _) _⟩;refine dy (aY HV.out.oj fun q hq _=>?_) (by omega);rw[zJ _ _ _ _ (by simp;omega),zJ _ _ _ _ (by simp;omega)]
theorem oK(m a g:Int)(p c d:Bool)(L:List Op.Opt)(v:Value)(w:World)(hm:L.length<=maxLen)(hL:HoldsO w v L)(h:aK m a g=false\/Op.right L=false):Calls prog 109 #[cN m a g p c d,v] w fun e w'=>e=.returned (.agg #[(0:Int),()])/\Below w w w':=by
 have C1:=aa fun q=>dO m a g p c d q
 obtain⟨hs,q0,q1,hb0⟩:=br w (.cells #[m,a,g,p,c,d] 24) (.cells #[(0:Int),()] 97);have HQ:=aa (zA hs (zA q0 (zA q1 hb0)));have C2:=aa fun q (hq:Below w w q)=>nA v L q hm (hL.below hq rfl)
 obtain⟨ad,cp,rfl⟩:=hL.form;generalize L.length=n at*;clear hs q0 q1 hb0 hL;by_cases hc:aK m a g=true
 .have hr:Op.right L=false:=by
   rcases h with h|h
   .rw [hc]at h;cases h
   .exact h
  rw[hc]at C1;rw[hr]at C2;go_enter func109,ntmps109
  go_wp2_with fail
  refine(uh C1 _).mono ?_;rintro e w1⟨rfl,hb1⟩;have hB1:=HQ.out.2.2.2.trans (hb1.mono (by rw[HQ.out.1];omega));have hr1:=(hb1.block (w.heap.size+1) (by rw[HQ.out.1];omega)).trans HQ.out.2.2.1;have H1:=aa (zA hB1 hr1);clear hB1 hr1 hb1 HQ;go_wp2_with fail
  refine(uh C2 _ H1.out.1).mono ?_;rintro e w2⟨rfl,hb2⟩;have hB2:=H1.out.1.trans (hb2.mono H1.out.1.size);have hr2:=(hb2.block (w.heap.size+1) (ge.1 H1.out.2).1).trans H1.out.2;obtain⟨c0,c1,f0,f1⟩:=av hr2;have H2:=aa (zA hB2 hr2);clear hB2 hr2 hb2 H1;go_wp2
  refine bodyPost_ret (v:=.agg #[(0:Int),()]) (by simp[results,results109,asAddr,dM (aM H2.out.2 (0:Int) ())]) rfl ⟨rfl,?_⟩;exact(H2.out.1.setCell (p:=(w.heap.size+1,0)) (Nat.le_succ _) _).setCell (p:=(w.heap.size+1,1)) (Nat.le_succ _) _
 .rw [Bool.not_eq_true]at hc;rw[hc]at C1;clear C2;go_enter func109,ntmps109
  go_wp2_with fail
  refine(uh C1 _).mono ?_;rintro e w1⟨rfl,hb1⟩;have hB2:=HQ.out.2.2.2.trans (hb1.mono (by rw[HQ.out.1];omega));have hr2:=(hb1.block (w.heap.size+1) (by rw[HQ.out.1];omega)).trans HQ.out.2.2.1;obtain⟨c0,c1,f0,f1⟩:=av hr2;have H2:=aa (zA hB2 hr2);clear hB2 hr2 hb1 HQ;go_wp2
  refine bodyPost_ret (v:=.agg #[(0:Int),()]) (by simp[results,results109,asAddr,dM (aM H2.out.2 (0:Int) ())]) rfl ⟨rfl,?_⟩;exact(H2.out.1.setCell (p:=(w.heap.size+1,0)) (Nat.le_succ _) _).setCell (p:=(w.heap.size+1,1)) (Nat.le_succ _) _
def ck(m a g:Int)(p c d:Bool)(L:List Op.Opt):Int × List Op.Opt :=
 if aK m a g=true/\Op.right L=true then(mx (b_ m.toNat a.toNat g.toNat p c d L),fl (mx (b_ m.toNat a.toNat g.toNat p c d L)) (b_ m.toNat a.toNat g.toNat p c d L))else(0,[])
theorem lM(m a g:Int)(p c d:Bool)(L:List Op.Opt):(ck m a g p c d L).2.length<=20:=by
 unfold ck;split
 .next h =>
  refine zE (kl _ _) ?_;unfold b_;rw[eq];exact Op.right_len h.2
 .exact Nat.zero_le _
theorem nV{m a g:Int}(h:aK m a g=true):((m.toNat:Nat):Int)=m/\((a.toNat:Nat):Int)=a/\((g.toNat:Nat):Int)=g:=by
 simp only[aK,bh,zK,decide_eq_true_eq]at h;omega
theorem mY(m a g:Int)(p c d:Bool)(L:List Op.Opt)(v:Value)(w:World)(hm:L.length<=maxLen)(hL:HoldsO w v L):Calls prog 149 #[cN m a g p c d,v] w fun e w'=>∃ad cp,e=.returned (.agg #[.int .i64 (ck m a g p c d L).1,.slice ad (ck m a g p c d L).2.length cp])/\w'.ownsRow w 105 2 (.slice ad (ck m a g p c d L).2.length cp) (ck m a g p c d L).2.length (aj (ck m a g p c d L).2)/\Below w w w':=by
 by_cases h:aK m a g=true/\Op.right L=true
 .rw [show ck m a g p c d L=(mx (b_ m.toNat a.toNat g.toNat p c d L),fl (mx (b_ m.toNat a.toNat g.toNat p c d L)) (b_ m.toNat a.toNat g.toNat p c d L))from if_pos h];obtain⟨e1,e2,e3⟩:=nV h.1;have:=mN m.toNat a.toNat g.toNat p c d L v w hL (by rw[e1,e2,e3];exact h.1) h.2
  rw[e1,e2,e3]at this;exact this
 .rw [show ck m a g p c d L=(0,[])from if_neg h];refine(oE m a g p c d L v w hm hL ?_).mono fun e w' ⟨h1,h2⟩=>⟨none,0,h1,⟨rfl,Or.inl ⟨rfl,rfl⟩⟩,h2⟩
  cases h1:aK m a g
  .exact Or.inl rfl
  .right
   cases h2:Op.right L
   .rfl
   .exact absurd ⟨h1,h2⟩ h
theorem mZ(m a g:Int)(p c d:Bool)(L:List Op.Opt)(v:Value)(w:World)(hm:L.length<=maxLen)(hL:HoldsO w v L):Calls prog 109 #[cN m a g p c d,v] w fun e w'=>∃ad cp,e=.returned (.agg #[.int .i64 (ck m a g p c d L).1,.slice ad (ck m a g p c d L).2.length cp])/\w'.ownsRow w 105 2 (.slice ad (ck m a g p c d L).2.length cp) (ck m a g p c d L).2.length (aj (ck m a g p c d L).2)/\Below w w w':=by
 by_cases h:aK m a g=true/\Op.right L=true
 .rw [show ck m a g p c d L=(mx (b_ m.toNat a.toNat g.toNat p c d L),fl (mx (b_ m.toNat a.toNat g.toNat p c d L)) (b_ m.toNat a.toNat g.toNat p c d L))from if_pos h];obtain⟨e1,e2,e3⟩:=nV h.1;obtain⟨ad,cp,rfl⟩:=hL.form;have:=mX m.toNat a.toNat g.toNat p c d L ad cp w hL (by rw[e1,e2,e3];exact h.1) h.2
  rw[e1,e2,e3]at this;exact this
 .rw [show ck m a g p c d L=(0,[])from if_neg h];refine(oK m a g p c d L v w hm hL ?_).mono fun e w' ⟨h1,h2⟩=>⟨none,0,h1,⟨rfl,Or.inl ⟨rfl,rfl⟩⟩,h2⟩
  cases h1:aK m a g
  .exact Or.inl rfl
  .right
   cases h2:Op.right L
   .rfl
   .exact absurd ⟨h1,h2⟩ h
theorem qA(v:Value)(F:List Op.Opt)(w:World)(hr:Op.right F=true)(h:HoldsO w v F):Calls prog 116 #[v] w fun e w'=>∃ad cp,e=.returned (.slice ad F.length cp)/\w'.ownsRow w.heap.size 105 2 (.slice ad F.length cp) F.length (aj F)/\Below w.heap.size w w':=by
 have hl20:F.length<=20:=by
  unfold Op.right at hr;rw[zK]at hr;exact of_decide_eq_true hr.1
 have hok:∀o∈F,o.data.size<=20:=by
  unfold Op.right at hr;rw[zK]at hr;exact fun o ho=>(of_decide_eq_true (List.all_eq_true.1 hr.2 o ho)).2.2
 have HH:=aa h;obtain⟨va,vc,rfl⟩:=h.form;obtain⟨n,hn⟩ := ex F.length;rw[hn]at HH hl20|-;clear h hr;go_enter func116,ntmps116
 go_wp2_with fail
 go_loopw [3,8] (fun x y wr=>∃(i:Nat)(ad:Option Addr)(cp:Nat),i<=n/\y=.int .i64 i/\x=.slice ad (F.take i).length cp/\wr.ownsRow w 105 2 (.slice ad (F.take i).length cp) (F.take i).length (aj (F.take i))/\Below w w wr) (fun x y wr=>n-(intOf y).toNat)
 case atStart=>exact⟨0,none,0,Nat.zero_le _,rfl,rfl,⟨rfl,Or.inl ⟨rfl,rfl⟩⟩,zC _ _⟩
 case round =>
  obtain⟨i,ad,cp,hi,rfl,rfl,ho,hb⟩:=hrel;have hbs:=hb.size;have HO:=aa ho;have HB:=aa hb;by_cases hlt:i<n
  .have d1:(i:Int)<(n:Int):=by omega
   have d0:(0:Int)<=(i:Int):=by omega
   obtain⟨g,⟨cp',hv⟩,hgl,k0,k1⟩:=HoldsO.at (HH.out.below hb rfl) i (by omega);injection hv with hv hv2 hv3;subst hv hv3;clear hv2;have hsz:=hok (F[i]'(by omega)) (List.getElem_mem _);have HS:Hid (F.take (i+1)=F.take i++[F[i]'(by omega)]):=aa (List.take_succ_eq_append_getElem (by omega));have hLl:(F.take i).length<=i:=by rw[List.length_take];omega
   generalize F[i]'(by omega)=o at*;generalize F.take i=L at*;obtain⟨kd,dt⟩:=o;dsimp only at k0 k1 hsz;have CS:=aa fun W=>iB kd dt W hsz
   clear ho hb HH hok;go_wp2_with fail
   refine(uh CS _).mono ?_;rintro e w5⟨rfl,hb5⟩;have HB5:=aa (((HB.out.alloc hbs _)).trans (hb5.mono (zE hbs (by simp))));have HO5:=aa (aP (HO.out.alloc _) hb5);have hbs5:=HB5.out.size;clear hb5
   go_wp2_with (first
    | (at_builtin;refine cD rfl _ _ rfl w (ad,L.length,cp) L L.length rfl rfl HO5.out kd dt rfl (by omega) hbs5 ?_;rintro v6 w6 ho6 hg6;obtain⟨a6,c6,rfl⟩:=af ho6))
   have hb6:Below w w w6:=(HB5.out.alloc hbs5 _).grown hg6 (by simp;omega) (fun q hq=>(World.ownsRow.lt HO5.out q hq).1);go_roundw
   case rel=>exact⟨i+1,a6,c6,by omega,by go_num,by rw[uh HS,List.length_append];rfl,by rw[uh HS,List.length_append];exact ho6,hb6⟩
   case measure=>simp[intOf];omega
  .have e:i=n:=by omega
   subst e;have HT:Hid (F.take i=F):=aa (List.take_of_length_le (by omega));clear ho hb HH;go_wp2
   go_ret
   rw[uh HT]at HO|-;rw[hn]at HO|-;exact⟨ad,cp,rfl,uh HO,uh HB⟩
theorem qB(now:Int)(w:World):Calls prog 83 #[now] w fun e w'=>e=.returned (.bool (bh 0 1000000000 now))/\w'=w:=by
 have C:=aa (cE now 0 1000000000 w);go_enter func83,ntmps83
 go_wp2_with fail
 refine cq C.out ?_;go_wp2
 go_ret
 exact⟨rfl,rfl⟩
section
abbrev FB(o:Op.Opt):Value:=.agg #[o.kind,o.data]
def IdxA(p:Op.Opt->Bool)(L:List Op.Opt)(r:Int):Prop:=(r=-1/\∀j (h:j<L.length),p L[j]=false)\/∃k,∃h:k<L.length,r=(k:Int)/\p L[k]=true/\∀j (h:j<L.length),j<k->p L[j]=false
theorem IdxA.any{p:Op.Opt->Bool}{L:List Op.Opt}{r:Int}(h:IdxA p L r):decide (0<=r)=L.any p:=by
 rcases h with⟨rfl,h⟩|⟨k,hk,rfl,h,_⟩
 .have:L.any p=false:=List.any_eq_false.2 fun x hx=>by
   obtain⟨j,hj,rfl⟩:=List.getElem_of_mem hx;rw[h j hj];decide
  rw[this];rfl
 .rw [List.any_eq_true.2 ⟨_,List.getElem_mem hk,h⟩];exact decide_eq_true (by omega)
theorem yU(lb:Array Value)(p:Op.Opt->Bool)(v:Value)(L:List Op.Opt)(w:World)(hl:L.length<=1000)(hL:HoldsO w v L)(hp:∀(W:World)(x:Op.Opt),Below w w W->Calls prog 169 (#[FB x]++lb) W fun e w'=>e=.returned (.bool (p x))/\Below W W w'):Calls prog 210 #[v,.func (.func 169) #[] lb] w fun e w'=>∃r:Int,e=.returned (.int .i64 r)/\IdxA p L r/\Below w w w':=by
 have HL:=aa hL;obtain⟨va,vc,rfl⟩:=hL.form;obtain⟨n,hn⟩ := ex L.length;rw[hn]at HL hl|-;clear hL;have HP:=aa hp;clear hp;go_enter func210,ntmps210
 go_wp2
 go_loopw [5,8] (fun _ y wr=>∃k:Nat,k<=n/\y=.int .i64 k/\Hid (Below w w wr/\∀j (h:j<L.length),j<k->p L[j]=false)) (fun _ y _=>n-(intOf y).toNat)
 case atStart=>exact⟨0,Nat.zero_le _,rfl,aa ⟨zC _ _,fun j _ h=>absurd h (Nat.not_lt_zero _)⟩⟩
 case round =>
  obtain⟨k,hk,rfl,HB⟩:=hrel;by_cases hlt:k<n
  .have d1:(k:Int)<(n:Int):=by omega
   have d0:(0:Int)<=(k:Int):=by omega
   obtain⟨G,⟨cp',hv⟩,hgl,k0,k1⟩:=HoldsO.at (HL.out.below HB.out.1 rfl) k (by omega);injection hv with hv hv2 hv3;subst hv hv3;clear hv2;have hcall:=uh HP wr (L[k]'(by omega)) HB.out.1;have HK:Hid (∀b,p (L[k]'(by omega))=b->p (L[k]'(by omega))=b):=aa fun _ h=>h
   obtain⟨o,ho⟩ := ex (L[k]'(by omega));rw[ho]at k0 k1 hcall;have HO:=aa ho;clear ho HK;obtain⟨kd,dt⟩:=o;dsimp only at k0 k1;cases hq:p ⟨kd,dt⟩with
   | true =>
    rw[hq]at hcall;have HQ:=aa hq;clear hq;go_wp2_with fail
    refine hcall.mono ?_;rintro e w'⟨rfl,hb'⟩;clear hcall;go_wp2
    go_ret
    refine⟨(k:Int),rfl,Or.inr ⟨k,by omega,rfl,by rw[uh HO];exact uh HQ,HB.out.2⟩,HB.out.1.trans (hb'.mono HB.out.1.size)⟩
   | false =>
    rw[hq]at hcall;have HQ:=aa hq;clear hq;go_wp2_with fail
    refine hcall.mono ?_;rintro e w'⟨rfl,hb'⟩;clear hcall;go_wp2_with fail
    go_roundw
    case rel =>
     refine⟨k+1,by omega,by go_num,aa ⟨HB.out.1.trans (hb'.mono HB.out.1.size),fun j hj hjk=>?_⟩⟩;by_cases e:j=k
     .subst e;rw[uh HO];exact uh HQ
     .exact HB.out.2 j hj (by omega)
    case measure=>simp[intOf];omega
  .have d1:¬(k:Int)<(n:Int):=by omega
   go_wp2
   go_ret
   exact⟨-1,rfl,Or.inl ⟨rfl,fun j hj=>HB.out.2 j hj (by omega)⟩,HB.out.1⟩
theorem yV(lb:Array Value)(p:Op.Opt->Bool)(v:Value)(L:List Op.Opt)(w:World)(hl:L.length<=1000)(hL:HoldsO w v L)(hp:∀(W:World)(x:Op.Opt),Below w w W->Calls prog 167 (#[FB x]++lb) W fun e w'=>e=.returned (.bool (p x))/\Below W W w'):Calls prog 210 #[v,.func (.func 167) #[] lb] w fun e w'=>∃r:Int,e=.returned (.int .i64 r)/\IdxA p L r/\Below w w w':=by
 have HL:=aa hL;obtain⟨va,vc,rfl⟩:=hL.form;obtain⟨n,hn⟩ := ex L.length;rw[hn]at HL hl|-;clear hL;have HP:=aa hp;clear hp;go_enter func210,ntmps210
 go_wp2
 go_loopw [5,8] (fun _ y wr=>∃k:Nat,k<=n/\y=.int .i64 k/\Hid (Below w w wr/\∀j (h:j<L.length),j<k->p L[j]=false)) (fun _ y _=>n-(intOf y).toNat)
 case atStart=>exact⟨0,Nat.zero_le _,rfl,aa ⟨zC _ _,fun j _ h=>absurd h (Nat.not_lt_zero _)⟩⟩
 case round =>
  obtain⟨k,hk,rfl,HB⟩:=hrel;by_cases hlt:k<n
  .have d1:(k:Int)<(n:Int):=by omega
   have d0:(0:Int)<=(k:Int):=by omega
   obtain⟨G,⟨cp',hv⟩,hgl,k0,k1⟩:=HoldsO.at (HL.out.below HB.out.1 rfl) k (by omega);injection hv with hv hv2 hv3;subst hv hv3;clear hv2;have hcall:=uh HP wr (L[k]'(by omega)) HB.out.1;have HK:Hid (∀b,p (L[k]'(by omega))=b->p (L[k]'(by omega))=b):=aa fun _ h=>h
   obtain⟨o,ho⟩ := ex (L[k]'(by omega));rw[ho]at k0 k1 hcall;have HO:=aa ho;clear ho HK;obtain⟨kd,dt⟩:=o;dsimp only at k0 k1;cases hq:p ⟨kd,dt⟩with
   | true =>
    rw[hq]at hcall;have HQ:=aa hq;clear hq;go_wp2_with fail
    refine hcall.mono ?_;rintro e w'⟨rfl,hb'⟩;clear hcall;go_wp2
    go_ret
    refine⟨(k:Int),rfl,Or.inr ⟨k,by omega,rfl,by rw[uh HO];exact uh HQ,HB.out.2⟩,HB.out.1.trans (hb'.mono HB.out.1.size)⟩
   | false =>
    rw[hq]at hcall;have HQ:=aa hq;clear hq;go_wp2_with fail
    refine hcall.mono ?_;rintro e w'⟨rfl,hb'⟩;clear hcall;go_wp2_with fail
    go_roundw
    case rel =>
     refine⟨k+1,by omega,by go_num,aa ⟨HB.out.1.trans (hb'.mono HB.out.1.size),fun j hj hjk=>?_⟩⟩;by_cases e:j=k
     .subst e;rw[uh HO];exact uh HQ
     .exact HB.out.2 j hj (by omega)
    case measure=>simp[intOf];omega
  .have d1:¬(k:Int)<(n:Int):=by omega
   go_wp2
   go_ret
   exact⟨-1,rfl,Or.inl ⟨rfl,fun j hj=>HB.out.2 j hj (by omega)⟩,HB.out.1⟩
theorem yW(lb:Array Value)(p:Op.Opt->Bool)(v:Value)(L:List Op.Opt)(w:World)(hl:L.length<=1000)(hL:HoldsO w v L)(hp:∀(W:World)(x:Op.Opt),Below w w W->Calls prog 169 (#[FB x]++lb) W fun e w'=>e=.returned (.bool (p x))/\Below W W w'):Calls prog 168 #[v,.func (.func 169) #[] lb] w fun e w'=>e=.returned (.bool (L.any p))/\Below w w w':=by
 have C:=aa (yU lb p v L w hl hL hp);clear hp hL;go_enter func168,ntmps168
 go_wp2_with fail
 refine C.out.mono ?_;rintro e w'⟨r,rfl,hr,hb⟩;have HR:=aa hr.any;clear hr C;go_wp2
 go_ret
 refine⟨?_,hb⟩;rw[<- uh HR];rfl
theorem inK(x:Op.Opt)(k:Int)(O:Nat)(W:World)(h:W.cell? (O,0)=some (k:V)):Calls prog 169 #[FB x,(O,0)] W fun e w'=>e=.returned (.bool (x.kind==k))/\Below W W w':=by
 have hlt:=World.block_lt_of_cell? W _ h;have hne:¬(O=W.heap.size):=Nat.ne_of_lt hlt;have hne2:¬(W.heap.size=O):=fun e=>hne e.symm
 obtain⟨kd,dt⟩:=x;have c2:(W.alloc (.cells #[kd,dt] 105)).cell? (O,0)=some (.int .i64 k):=by
  rw[((zC W.heap.size W).alloc (zD _) _).cell (p:=⟨O,0,none⟩) hlt];exact h
 go_enter func169,ntmps169
 go_wp2
 go_ret
 exact⟨rfl,(zC _ _).alloc (zD _) _⟩
theorem yX(x:Op.Opt)(v:Value)(Os:List Op.Opt)(O:Nat)(W:World)(hl:Os.length<=1000)(h:W.cell? (O,0)=some v)(hO:HoldsO W v Os):Calls prog 167 #[FB x,(O,0)] W fun e w'=>e=.returned (.bool (!(Os.any fun y=>y.kind==x.kind)))/\Below W W w':=by
 have hlt:=World.block_lt_of_cell? W _ h;obtain⟨kd,dt⟩:=x;have hbA:Below W W (W.alloc (.cells #[kd,dt] 105)):=(zC _ _).alloc (zD _) _;have c2:(W.alloc (.cells #[kd,dt] 105)).cell? (O,0)=some v:=by
  rw[hbA.cell (p:=⟨O,0,none⟩) hlt];exact h
 have hx:(W.alloc (.cells #[kd,dt] 105)).cell? (W,0)=some (.int .i64 kd):=by
  rw[cr (zF W _)];rfl
 have hxl:W.heap.size<(W.alloc (.cells #[kd,dt] 105)).heap.size:=by simp
 have C:=aa (yW #[.pointer (some ⟨W.heap.size,0,none⟩)] (fun y=>y.kind==kd) v Os (W.alloc (.cells #[.int .i64 kd,.string dt] 105)) hl (hO.below hbA rfl) (fun W' y hb=>inK y kd W.heap.size W' ((hb.cell (p:=⟨W.heap.size,0,none⟩) hxl).trans hx)));obtain⟨va,vc,rfl⟩:=hO.form;clear hx hxl hO h hlt;go_enter func167,ntmps167
 go_wp2_with fail
 refine C.out.mono ?_;rintro e w'⟨rfl,hb⟩;clear C;go_wp2
 go_ret
 exact⟨rfl,hbA.trans (hb.mono hbA.size)⟩
theorem zT{T:TypeId}{g:Nat}:∀(vs:List Value)(o:Nat)(W:World)(cur:Array Value),W.heap[g]?=some (.cells cur T)->o+vs.length<=cur.size ->
  ∃cur',(W.setCells g o vs).heap[g]?=some (.cells cur' T)/\cur'.size=cur.size/\∀k,k<o->cur'[k]?=cur[k]?
 | [],_,_,cur,h,_=>⟨cur,h,rfl,fun _ _=>rfl⟩
 | v::vs,o,W,cur,h,hl=>by
  rw[List.length_cons]at hl;obtain⟨cur',h1,h2,h3⟩:=zT vs (o+1) (W.setCell (g,o) v) (cur.setIfInBounds o v) (zH _ _ o _ _ v h) (by rw[Array.size_setIfInBounds];omega);exact⟨cur',h1,by rw[h2,Array.size_setIfInBounds],fun k hk=>by rw[h3 k (by omega),Array.getElem?_setIfInBounds,if_neg (by omega)]⟩
theorem AH{n g:Nat}{a:World}(hg:n<=g):∀(vs:List Value)(o:Nat)(W:World),Below n a W->Below n a (W.setCells g o vs)
 | [],_,_,h=>h
 | v::vs,o,W,h=>AH hg vs (o+1) (W.setCell (g,o) v) (h.setCell (p:=(g,o)) hg v)
theorem oO(n:Nat):((Builtin.zeroCells #[(0:Int),.string ⟨#[]⟩] n).toList.length=n*2)/\∀u∈(Builtin.zeroCells #[(0:Int),.string ⟨#[]⟩] n).toList,u.oneCell'=true:=by
 refine⟨by simp[Builtin.zeroCells],fun u hu=>?_⟩;simp[Builtin.zeroCells]at hu;obtain⟨i,_,rfl⟩:=hu;have h2:i%2=0\/i%2=1:=by omega
 rcases h2 with h|h<;>rw[h]<;>rfl
theorem m_(w:World)(ty:TypeId)(b o n c:Nat)(hn:0<n)(hc:∀j,j<n*2->(w.cell? (b,o+j)).isSome=true)(hf:∀j,j<n*2->w.frozen? (b,o+j)=false):∃zs:List Value,zs.length=n*2/\(Builtin.clear_ #[28] ty #[.slice (some (b,o)) n c]).run prog w=.ok (.tuple #[]) (w.setCells b o zs):=by
 obtain⟨h1,h2⟩:=oO n;refine⟨_,h1,?_⟩;have hst:=run_storeCells_cells (P:=prog) b o (Builtin.zeroCells #[(0:Int),.string ⟨#[]⟩] n).toList 0 w (by rw[h1];simpa using hc) (by rw[h1];simpa using hf) h2;simp only[Nat.add_zero]at hst;obtain⟨m,rfl⟩:∃m,n=m+1:=⟨n-1,by omega⟩;simp[Builtin.clear_,run_underlying underlying28,Value.cells,hst]
theorem nY:prog.elem 28=105:=by kernel_rfl
structure Dk(q:World)(base G cap n:Nat)(L K:List Op.Opt)(j:Nat)(z:World):Prop where
 b:Below base q z
 g:∃cur,z.heap[G]?=some (.cells cur 105)/\cur.size=cap*2/\(∀t,t<K.length*2->cur[t]?=(aj K)[t]?)/\∀t,j*2<=t->t<n*2->cur[t]?=(aj L)[t]?
variable {q z z':World} {base G cap n j:Nat} {L K:List Op.Opt}
theorem Dk.step(h:Dk q base G cap n L K j z)(hbs:base<=z.heap.size)(hb:Below z z z'):Dk q base G cap n L K j z':=by
 obtain⟨cur,h1,h2⟩:=h.g;exact⟨h.b.trans (hb.mono hbs),cur,(hb.block _ (ge.1 h1).1).trans h1,h2⟩
theorem Dk.lt(h:Dk q base G cap n L K j z):G<z.heap.size:=by
 obtain⟨cur,h1,_⟩:=h.g;exact(ge.1 h1).1
theorem Dk.get(h:Dk q base G cap n L K j z)(hL:L.length=n)(hj:j<n):z.cell? ⟨G,j*2,none⟩=some (.int .i64 (L[j]'(by omega)).kind)/\z.cell? ⟨G,j*2+1,none⟩=some (.string (L[j]'(by omega)).data):=by
 obtain⟨cur,h1,_,_,h4⟩:=h.g;have hg:=bW L j _ (List.getElem?_eq_getElem (by omega));exact⟨by rw[cr h1,h4 _ (by omega) (by omega)];exact hg.1,by rw[cr h1,h4 _ (by omega) (by omega)];exact hg.2⟩
theorem Dk.skip(h:Dk q base G cap n L K j z):Dk q base G cap n L K (j+1) z:=by
 obtain⟨cur,h1,h2,h3,h4⟩:=h.g;exact⟨h.b,cur,h1,h2,h3,fun t ht hn=>h4 t (by omega) hn⟩
theorem Dk.keep(h:Dk q base G cap n L K j z)(hG:base<=G)(hK:K.length<=j)(hj:j<n)(hc:n<=cap)(o:Op.Opt):Dk q base G cap n L (K++[o]) (j+1) ((z.setCell ⟨G,K.length*2,none⟩ o.kind).setCell ⟨G,K.length*2+1,none⟩ o.data):=by
 obtain⟨cur,h1,h2,h3,h4⟩:=h.g;have e1:=zH z G (K.length*2) _ _ o.kind h1;have e2:=zH _ G (K.length*2+1) _ _ o.data e1;refine⟨(h.b.setCell (p:=⟨G,K.length*2,none⟩) hG _).setCell (p:=⟨G,K.length*2+1,none⟩) hG _,_,e2,by rw[Array.size_setIfInBounds,Array.size_setIfInBounds];exact h2,fun t ht=>?_,fun t ht hn=>?_⟩
 .rw [List.length_append,List.length_singleton]at ht;rw[bV,Array.getElem?_setIfInBounds,Array.getElem?_setIfInBounds,Array.size_setIfInBounds];by_cases t1:K.length*2+1=t
  .rw [if_pos t1,if_pos (by omega),List.getElem?_append_right (by rw[bU];omega),bU,show t-K.length*2=1 by omega];rfl
  .rw [if_neg t1];by_cases t0:K.length*2=t
   .rw [if_pos t0,if_pos (by omega),List.getElem?_append_right (by rw[bU];omega),bU,show t-K.length*2=0 by omega];rfl
   .rw [if_neg t0,List.getElem?_append_left (by rw[bU];omega)];exact h3 t (by omega)
 .rw [Array.getElem?_setIfInBounds,Array.getElem?_setIfInBounds,Array.size_setIfInBounds,if_neg (by omega),if_neg (by omega)];exact h4 t (by omega) hn
theorem jV(p:Op.Opt->Bool)(L:List Op.Opt)(j:Nat)(hj:j<L.length):(L.take (j+1)).filter (fun o=>!p o)=(L.take j).filter (fun o=>!p o)++(if p L[j]=true then[]else[L[j]]):=by
 rw[List.take_succ_eq_append_getElem hj,List.filter_append];congr 1
 cases h:p L[j]<;>simp[h]
theorem qC(p:Op.Opt->Bool)(L:List Op.Opt)(h:∀j (hj:j<L.length),p L[j]=false):L.filter (fun o=>!p o)=L :=
 List.filter_eq_self.2 fun x hx=>by
  obtain⟨j,hj,rfl⟩:=List.getElem_of_mem hx;rw[h j hj];rfl
theorem yY(lb:Array Value)(p:Op.Opt->Bool)(v:Value)(L:List Op.Opt)(base:Nat)(q:World)(hbase:base<=q.heap.size)(hl:L.length<=20)(ho:q.ownsRow base 105 2 v L.length (aj L))(hp:∀(W:World)(x:Op.Opt),Below base q W->Calls prog 167 (#[FB x]++lb) W fun e w'=>e=.returned (.bool (p x))/\Below W W w'):Calls prog 166 #[v,.func (.func 167) #[] lb] q fun e q'=>∃v',e=.returned v'/\q'.ownsRow base 105 2 v' (L.filter fun o=>!p o).length (aj (L.filter fun o=>!p o))/\Below base q q':=by
 have C:=aa (yV lb p v L q (by omega) (HoldsO.own ho) (fun W x hb=>hp W x (hb.mono hbase)));have HO:=aa ho;have HP:=aa hp;obtain⟨va,vc,rfl⟩:=af ho;clear hp ho;obtain⟨n,hn⟩ := ex L.length;rw[hn]at C HO hl|-;go_enter func166,ntmps166
 go_wp2_with fail
 refine C.out.mono ?_;rintro e w1⟨r,rfl,hr,hb⟩;rcases hr with⟨rfl,hall⟩|⟨k,hk,rfl,hpk,hall⟩
 .have HF:=aa (qC p L hall);have HB:=aa hb;clear hb hall C HP;go_wp2
  go_ret
  refine⟨_,rfl,?_,HB.out.mono hbase⟩;rw[uh HF,hn];exact aP HO.out HB.out
 .have hne:((k:Int) == -1)=false:=zL (by omega);obtain⟨G,cur,ev,hG,hgq,hnc,hcm,hcs,htk⟩ : ∃G cur,va=some ⟨G,0,none⟩/\base<=G/\q.heap[G]?=some (.cells cur 105)/\n<=vc/\vc<=maxLen/\cur.size=vc*2/\cur.toList.take (n*2)=aj L:=by
   rcases HO.out.2 with⟨_,e0⟩|⟨G,cap,cur,e1,e2,e3,e4,e5,e6,e7⟩
   .omega
   .cases e1;exact⟨G,cur,rfl,e2,e3,e4,e5,e6,e7⟩
  subst ev;have HK0:Hid (((L.take (k+1)).filter fun o=>!p o)=L.take k):=aa (by
   rw[jV p L k hk,if_pos hpk,List.append_nil];refine List.filter_eq_self.2 fun x hx=>?_
   obtain⟨j,hj,rfl⟩:=List.mem_take_iff_getElem.1 hx;rw[hall j (by omega) (by omega)];rfl)
  have hD0:Dk q base G vc n L (L.take k) (k+1) w1:=by
   have hlook:∀t,t<n*2->cur[t]?=(aj L)[t]?:=fun t ht=>by
    rw[<- htk,List.getElem?_take,if_pos ht,Array.getElem?_toList]
   refine⟨hb.mono hbase,cur,(hb.block _ (ge.1 hgq).1).trans hgq,hcs,fun t ht=>?_,fun t _ ht=>hlook t ht⟩;rw[List.length_take]at ht;rw[hlook t (by omega)];conv=>lhs;rw[<- List.take_append_drop k L,bV]
   rw[List.getElem?_append_left (by rw[bU,List.length_take];omega)]
  have HD0:=aa hD0;have hkn:k<n:=by omega
  have HM:=aa (zA hcm hcs);clear hb hall hpk hD0 htk hgq C HO hcm hcs;go_wp2_with fail
  go_loopw [5,6] (fun x y wr=>∃j:Nat,k<j/\j<=n/\y=.int .i64 j/\x=.int .i64 (((L.take j).filter fun o=>!p o).length:Nat)/\((L.take j).filter fun o=>!p o).length<j/\base<=wr.heap.size/\Hid (Dk q base G vc n L ((L.take j).filter fun o=>!p o) j wr)) (fun _ y _=>n-(intOf y).toNat)
  case atStart =>
   refine⟨k+1,by omega,by omega,by go_num,?_,?_,?_,?_⟩
   .rw [uh HK0,List.length_take,Nat.min_eq_left (by omega)]
   .rw [uh HK0,List.length_take];omega
   .exact zE hbase (by have:=HD0.out.lt;have:=HD0.out.b.size;omega:q.heap.size<=w1.heap.size)
   .rw [uh HK0];exact HD0
  case round =>
   obtain⟨j,hkj,hjn,rfl,rfl,hKj,hbw,HD⟩:=hrel;clear HD0 HK0;obtain⟨K,hK⟩:∃K,((L.take j).filter fun o=>!p o)=K:=⟨_,rfl⟩;rw[hK]at hKj HD;by_cases hlt:j<n
   .have d1:(j:Int)<(n:Int):=by omega
    have d0:(0:Int)<=(j:Int):=by omega
    have hFs:=jV p L j (by omega);rw[hK]at hFs;have HKS:=aa hFs;obtain⟨k0,k1⟩:=HD.out.get hn hlt;have hcall:=aa fun W hb=>uh HP W (L[j]'(by omega)) hb
    obtain⟨o,ho⟩ := ex (L[j]'(by omega));rw[ho]at k0 k1 hcall HKS;have hGl:=HD.out.lt;have hne1:¬(G=wr.heap.size):=by omega
    have hne2:¬(wr.heap.size=G):=by omega
    rw[hK];clear hK ho hFs HP;obtain⟨kd,dt⟩:=o;dsimp only at k0 k1;go_upto_region 8 with fail
    refine bb (fun z=>Dk q base G vc n L K j z/\z.heap[wr.heap.size]?=some (.cells #[kd,dt] 105)/\base<=z.heap.size) ?_ ?_
    .have hbA:=(zC wr wr).alloc (zD _) (.cells #[kd,dt] 105);exact⟨HD.out.step hbw hbA,zF wr _,zE hbw hbA.size⟩
    intro z1 hz1;generalize wr.heap.size=N at*;have HZ:=aa hz1;have m0:z1.cell? (N,0)=some (.int .i64 kd):=by rw[cr hz1.2.1];rfl
    have m1:z1.cell? (N,1)=some (.string dt):=by rw[cr hz1.2.1];rfl
    clear hz1 HD k0 k1;go_wp2_with fail
    refine(uh hcall _ HZ.out.1.b).mono ?_;rintro e z2⟨rfl,hb2⟩;clear hcall m0 m1;have hz2:Dk q base G vc n L K j z2/\z2.heap[N]?=some (.cells #[kd,dt] 105)/\base<=z2.heap.size:=⟨HZ.out.1.step HZ.out.2.2 hb2,(hb2.block _ (ge.1 HZ.out.2.1).1).trans HZ.out.2.1,zE HZ.out.2.2 hb2.size⟩;have H2:=aa hz2;have m0:z2.cell? (N,0)=some (.int .i64 kd):=by rw[cr hz2.2.1];rfl
    have m1:z2.cell? (N,1)=some (.string dt):=by rw[cr hz2.2.1];rfl
    clear hz2 hb2 HZ;cases hq:p ⟨kd,dt⟩with
    | true =>
     rw[hq,if_pos rfl,List.append_nil]at HKS;clear hq;go_wp2_with fail
     go_roundw
     case rel =>
      refine⟨j+1,by omega,by omega,by go_num,?_,?_,H2.out.2.2,?_⟩
      .rw [uh HKS]
      .rw [uh HKS];omega
      .rw [uh HKS];exact aa H2.out.1.skip
     case measure=>simp[intOf];omega
    | false =>
     rw[hq,if_neg (by decide)]at HKS;clear hq;obtain⟨c3,hc3,hs3,_⟩:=H2.out.1.g;have e0:(z2.cell? ⟨G,K.length*2,none⟩).isSome=true:=by rw[cr hc3,Array.getElem?_eq_getElem (by omega)];rfl
     have e1:(z2.cell? ⟨G,K.length*2+1,none⟩).isSome=true:=by rw[cr hc3,Array.getElem?_eq_getElem (by omega)];rfl
     obtain⟨y0,hy0⟩:=Option.isSome_iff_exists.1 e0;obtain⟨y1,hy1⟩:=Option.isSome_iff_exists.1 e1;have f0:=aX hc3 (K.length*2);have f1:=aX hc3 (K.length*2+1);have dK:(K.length:Int)<(n:Int):=by omega
     clear e0 e1 hc3 hs3;go_wp2_with fail
     go_roundw
     case rel =>
      refine⟨j+1,by omega,by omega,by go_num,?_,?_,?_,?_⟩
      .rw [uh HKS,List.length_append];go_num
      .rw [uh HKS,List.length_append];simp;omega
      .simpa using H2.out.2.2
      .rw [uh HKS];exact aa (H2.out.1.keep hG (by omega) hlt hnc ⟨kd,dt⟩)
     case measure=>simp[intOf];omega
   .have d1:¬((j:Int)<(n:Int)):=by omega
    have ejn:j=n:=by omega
    subst ejn;have hKL:(L.filter fun o=>!p o)=K:=by
     rw[<- hK,<- hn,List.take_length]
    have HKL:=aa hKL;rw[hK];clear hK hKL HP;obtain⟨c3,hc3,hs3,hlo3,_⟩:=HD.out.g;obtain⟨ys,hys⟩:∃ys:Value,(.slice (some ⟨G,K.length*2,none⟩) (j-K.length) (vc-K.length):Value)=ys:=⟨_,rfl⟩;have hs1:∀z:World,(Instr.slice 28 (.slice (some (G,0)) j vc) (some (.int .i64 (K.length:Int))) none none).run prog z=.ok ys z:=fun z=>by
     rw[<- hys,run_slice_l (P:=prog) (w:=z) 28 _ j vc (by rw[nY];exact underlying28) .i64 (K.length:Int) (by omega) (by omega),nY,Tryz.sizeOf105 z];have:¬vc=K.length:=by omega
     simp[Result.andThen,sliced,Addr.add,this];omega
    have hs2:∀z:World,(Instr.slice 28 (.slice (some (G,0)) j vc) none (some (.int .i64 (K.length:Int))) none).run prog z=.ok (.slice (some (G,0)) K.length vc) z:=fun z=>by
     rw[run_slice_h (P:=prog) (w:=z) 28 _ j vc (by rw[nY];exact underlying28) .i64 (K.length:Int) (by omega) (by omega),nY,Tryz.sizeOf105 z];simp[Result.andThen,sliced,Addr.add]
    obtain⟨zs,hzl,hcl⟩:=m_ wr 0 G (K.length*2) (j-K.length) (vc-K.length) (by omega) (fun t ht=>by rw[cr hc3,Array.getElem?_eq_getElem (by omega)];rfl) (fun t _=>aX hc3 _);rw[hys]at hcl;obtain⟨c4,hc4,hs4,hl4⟩:=zT zs (K.length*2) wr c3 hc3 (by omega);have HE:Hid ((wr.setCells G (K.length*2) zs).ownsRow base 105 2 (.slice (some (G,0)) K.length vc) K.length (aj K)/\Below base q (wr.setCells G (K.length*2) zs)):=aa ⟨⟨by rw[bU],Or.inr ⟨G,vc,c4,rfl,hG,hc4,by omega,HM.out.1,by rw[hs4,hs3],by
     refine List.ext_getElem? fun t=>?_
     rw[List.getElem?_take];by_cases ht:t<K.length*2
     .rw [if_pos ht,Array.getElem?_toList,hl4 t ht,hlo3 t ht]
     .rw [if_neg ht,List.getElem?_eq_none (by rw[bU];omega)]⟩⟩,AH hG _ _ _ HD.out.b⟩
    clear hys hc3 hs3 hlo3 hc4 hs4 hl4 hzl HD;go_wp2_with fail
    go_ret
    refine⟨_,rfl,?_,HE.out.2⟩;rw[uh HKL];exact HE.out.1
theorem qD(v vo:Value)(L Os:List Op.Opt)(w:World)(hr:Op.right L=true)(hl:Os.length<=1000)(hL:HoldsO w v L)(hO:HoldsO w vo Os):Calls prog 150 #[v,vo] w fun e w'=>∃v',e=.returned v'/\w'.ownsRow w 105 2 v' (gX L Os).length (aj (gX L Os))/\Below w w w':=by
 have hl20:L.length<=20:=Op.right_len hr;obtain⟨oa,oc,rfl⟩:=hO.form;have hbA:=(zC w w).alloc (zD _) (.cells #[(oa,Os.length,oc)] 28);have hx:(w.alloc (.cells #[(oa,Os.length,oc)] 28)).cell? (w,0)=some (.slice oa Os.length oc):=by
  rw[cr (zF w _)];rfl
 have hxl:w.heap.size<(w.alloc (.cells #[(oa,Os.length,oc)] 28)).heap.size:=by simp
 have CS:=aa (qA v L (w.alloc (.cells #[(oa,Os.length,oc)] 28)) hr (hL.below hbA rfl));have HX:=aa (zA hx (zA hxl (zA (hO.below hbA rfl) hbA)));clear hx hxl hO hL;obtain⟨w1,hw1⟩ := ex (w.alloc (.cells #[(oa,Os.length,oc)] 28));rw[hw1]at CS HX hbA;have HW:=aa hw1;clear hw1;have CD:Hid (∀(W:World)(va:Option Addr)(vc:Nat),Below w1 w1 W->W.ownsRow w1 105 2 (va,L.length,vc) L.length (aj L)->Calls prog 166 #[(va,L.length,vc),.func (.func 167) #[] #[(w,0)]] W fun e q'=>∃v',e=.returned v'/\q'.ownsRow w1 105 2 v' (gX L Os).length (aj (gX L Os))/\Below w1 W q'):=aa fun W va vc hb ho=>by
  have h:=yY #[.pointer (some ⟨w.heap.size,0,none⟩)] (fun x=>!(Os.any fun y=>y.kind==x.kind)) _ L w1.heap.size W hb.size hl20 ho (fun W' x hb'=>yX x _ Os w.heap.size W' hl (((hb.trans hb').cell (p:=⟨w.heap.size,0,none⟩) HX.out.2.1).trans HX.out.1) (HX.out.2.2.1.below (hb.trans hb') rfl));have e:(L.filter fun o=>!(fun x:Op.Opt=>!(Os.any fun y=>y.kind==x.kind)) o)=gX L Os:=by
   unfold gX;congr 1
   funext o
   exact Bool.not_not _
  rw[e]at h;exact h
 have hbs:=hbA.size;go_enter func150,ntmps150
 go_upto_region 1 with fail
 rw[uh HW];clear HW;go_wp2_with fail
 refine CS.out.mono ?_;rintro e w2⟨va,vc,rfl,ho2,hb2⟩;have CD2:=aa (uh CD w2 va vc hb2 ho2);have HB2:=aa hb2;clear hb2 ho2 CS CD;go_wp2_with fail
 refine CD2.out.mono ?_;rintro e w3⟨v3,rfl,ho3,hb3⟩;have H3:=aa (zA ho3 hb3);clear ho3 hb3 CD2;go_wp2
 go_ret
 exact⟨_,rfl,aE H3.out.1 hbs,hbA.trans ((HB2.out.trans H3.out.2).mono hbs)⟩
end
end Go.Proofs.YtjdgiimfpkideaaGreatDoor
