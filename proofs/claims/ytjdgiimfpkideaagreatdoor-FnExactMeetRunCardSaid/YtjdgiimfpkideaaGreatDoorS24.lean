/- SpecRep2 -/
import Derived.Test.YtjdgiimfpkideaaGreatDoorS21
set_option maxHeartbeats 8000000
namespace Go.Proofs.YtjdgiimfpkideaaGreatDoor
open Go.RowKit Go.Proofs.Tryz
def nS (b:Bool) (x:Int):Int:=if b then 4 else x
def nU (b:Bool) (t u:ByteArray):ByteArray:=if b then t else u
theorem oJ (m a g:Nat) (p c d:Bool) (l:List Op.Opt) (k:Int) (t:ByteArray):gB m a g p c d l ⟨k,t⟩=(nS (cQ k l) (one m a g p c d ⟨k,t⟩).1,⟨k,nU (cQ k l) t (one m a g p c d ⟨k,t⟩).2.data⟩):=by
  unfold gB;cases h:cQ k l
  · rw [if_neg (by simp)]
    unfold one;split<;>rfl
  · rw [if_pos rfl]
    rfl
theorem mW (k:Int) (L:List Op.Opt) (i:Nat) (hi:i<L.length):cQ k (L.take (i+1))=(cQ k (L.take i) || L[i].kind == k):=by
  unfold cQ;rw [List.take_succ_eq_append_getElem hi,List.any_append];simp
theorem mX (m a g:Nat) (p c d:Bool) (L:List Op.Opt) (ad:Option Addr) (cp:Nat) (w:World) (hL:HoldsO w (.slice ad L.length cp) L) (hc:aK m a g=true) (hr:Op.right L=true) :
    Calls prog 109 #[cN m a g p c d,.slice ad L.length cp] w fun e w'=>∃ ad' cp',e=.returned (.agg #[.int .i64 (mx (b_ m a g p c d L)),.slice ad' (fl (mx (b_ m a g p c d L)) (b_ m a g p c d L)).length cp'])∧w'.ownsRow w.heap.size 105 2 (.slice ad' (fl (mx (b_ m a g p c d L)) (b_ m a g p c d L)).length cp') (fl (mx (b_ m a g p c d L)) (b_ m a g p c d L)).length (aj (fl (mx (b_ m a g p c d L)) (b_ m a g p c d L)))∧Below w.heap.size w w':=by
  have hl20:=Op.right_len hr;have hm:L.length≤maxLen:=by unfold maxLen;omega
  obtain ⟨ha,hg⟩:=pP hc;have C1:=aa fun q=>dO m a g p c d q
  have C2:=aa fun q (hq:Below w.heap.size w q)=>cz (.slice ad L.length cp) L q hm (hL.below hq rfl)
  rw [hc] at C1;rw [hr] at C2;have hfin:=sL m a g p c d L;unfold b_;obtain ⟨X,hX⟩:∃ X,mx (dL m a g p c d L L.length)=X:=⟨_,rfl⟩;rw [hX] at hfin ⊢;obtain ⟨F,hF⟩:∃ F,fl X (dL m a g p c d L L.length)=F:=⟨_,rfl⟩;rw [hF];have HFin:Hid ((fl 4 (dL m a g p c d L L.length)≠[]→X=4∧F=fl 4 (dL m a g p c d L L.length))∧(fl 4 (dL m a g p c d L L.length)=[]→fl 3 (dL m a g p c d L L.length)≠[]→X=3∧F=fl 3 (dL m a g p c d L L.length))∧(fl 4 (dL m a g p c d L L.length)=[]→fl 3 (dL m a g p c d L L.length)=[]→X=2∧F=L)):=by
    refine aa ⟨fun h=>?_,fun h1 h2=>?_,fun h1 h2=>?_⟩
    · have e:=hfin.1 h
      exact ⟨e,by rw [← hF,e]⟩
    · have e:=hfin.2.1 h1 h2
      exact ⟨e,by rw [← hF,e]⟩
    · have e:=hfin.2.2 h1 h2
      exact ⟨e.1,by rw [← hF,e.1];exact e.2⟩
  clear hfin hX hF;obtain ⟨n,hn⟩:∃ n,L.length=n:=⟨_,rfl⟩;have HL:Hid (∀ i (hi:i<n),∃ gL,ad=some ⟨gL,0,none⟩∧gL<w.heap.size∧w.cell? ⟨gL,i*2,none⟩=some (.int .i64 (L[i]'(by omega)).kind)∧w.cell? ⟨gL,i*2+1,none⟩=some (.string (L[i]'(by omega)).data)):=by
    refine aa fun i hi=>?_
    rcases hL with ⟨_,_,_,e⟩ | ⟨gL,cp',cur,e,h2,h3,h4⟩
    · rw [e] at hn
      simp at hn;omega
    · cases e
      have q:=bW L i (L[i]'(by omega)) (List.getElem?_eq_getElem (by omega));exact ⟨gL,rfl,(ge.1 h2).1,by rw [cr h2];exact (h4 _ (by omega)).trans q.1,by rw [cr h2];exact (h4 _ (by omega)).trans q.2⟩
  have HK:Hid (∀ i (hi:i<n),(L[i]'(by omega)).data.size≤20):=by
    refine aa fun i hi=>?_
    have:=of_decide_eq_true (Op.right_all hr (L[i]'(by omega)) (List.getElem_mem _))
    exact this.2.2
  have HLO:=aa hL;obtain ⟨hs,q0,q1,hb0⟩:=br w (.cells #[.int .i64 m,.int .i64 a,.int .i64 g,.bool p,.bool c,.bool d] 24) (.cells #[.int .i64 0,.slice none 0 0] 97);have HQ:=aa (zA hs (zA q0 (zA q1 hb0)));rw [hn] at HFin hl20 C2 HLO ⊢;clear hs q0 q1 hb0 hL hc hr hm;go_enter func109,ntmps109
  go_wp2_with fail
  refine (uh C1 _).mono ?_;rintro e w1 ⟨rfl,hb1⟩;have hB1:=(uh HQ).2.2.2.trans (hb1.mono (by rw [(uh HQ).1];omega));have hr1:=(hb1.block (w.heap.size+1) (by rw [(uh HQ).1];omega)).trans (uh HQ).2.2.1;have hc1:=(hb1.block w.heap.size (by rw [(uh HQ).1];omega)).trans (uh HQ).2.1;have H1:=aa (zA hB1 (zA hr1 hc1));clear hB1 hr1 hb1 HQ hc1 C1;go_wp2_with fail
  refine (uh C2 _ (uh H1).1).mono ?_;rintro e w2 ⟨rfl,hb2⟩;have hB2:=(uh H1).1.trans (hb2.mono (uh H1).1.size);have hr2:=(hb2.block (w.heap.size+1) (ge.1 (uh H1).2.1).1).trans (uh H1).2.1;have hc2:=(hb2.block w.heap.size (ge.1 (uh H1).2.2).1).trans (uh H1).2.2;have hl2:w.heap.size+1<w2.heap.size:=(ge.1 hr2).1;have HS:Hid (RpS w w2.heap.size #[.int .i64 m,.int .i64 a,.int .i64 g,.bool p,.bool c,.bool d] (.slice none 0 0) (.slice none 0 0) [] [] ((w2.alloc (.cells #[.int .i64 3,.slice none 0 0] 97)).alloc (.cells #[.int .i64 4,.slice none 0 0] 97))):=by
    obtain ⟨_,e2,e3,e4⟩:=br w2 (.cells #[.int .i64 3,.slice none 0 0] 97) (.cells #[.int .i64 4,.slice none 0 0] 97);exact aa ⟨(e4.block _ (by omega)).trans hc2,(e4.block _ hl2).trans hr2,e2,e3,hB2.trans (e4.mono hB2.size),⟨rfl,Or.inl ⟨rfl,rfl⟩⟩,⟨rfl,Or.inl ⟨rfl,rfl⟩⟩,(fun g h=>by cases h),hl2⟩
  clear hB2 hr2 hc2 hb2 H1 C2;go_upto_region 5 with fail
  refine ab _ (uh HS) ?_;clear HS;rintro q0 hq0;generalize w2.heap.size=N at *;go_wp2_with fail
  go_loopw [7] (fun y wr=>∃ (i:Nat) (adn:Option Addr) (cpn:Nat) (adr:Option Addr) (cpr:Nat),i≤n∧y=.int .i64 i∧RpS w N #[.int .i64 m,.int .i64 a,.int .i64 g,.bool p,.bool c,.bool d] (.slice adn (fl 3 (dL m a g p c d L i)).length cpn) (.slice adr (fl 4 (dL m a g p c d L i)).length cpr) (fl 3 (dL m a g p c d L i)) (fl 4 (dL m a g p c d L i)) wr) (fun y _=>n - (intOf y).toNat)
  case atStart=>exact ⟨0,none,0,none,0,Nat.zero_le _,rfl,hq0⟩
  case round =>
    obtain ⟨i,adn,cpn,adr,cpr,hi,rfl,hV⟩:=hrel;clear hq0;by_cases hlt:i<n
    · clear HFin HLO
      have d1:(i:Int)<(n:Int):=by omega
      have d0:(0:Int)≤(i:Int):=by omega
      have hltL:i<L.length:=by omega
      obtain ⟨gL,rfl,hgl,k0,k1⟩:=uh HL i hlt;have hds:=uh HK i hlt;have HF3:=aa ((congrArg (fl 3) (fw m a g p c d L i)).trans (iC 3 _ _));have HF4:=aa ((congrArg (fl 4) (fw m a g p c d L i)).trans (iC 4 _ _));have HVC:=aa (ib m a g p c d L i hltL);have hn3:(fl 3 (dL m a g p c d L i)).length≤20:=zE (kl _ _) (by rw [eq];omega);have hn4:(fl 4 (dL m a g p c d L i)).length≤20:=zE (kl _ _) (by rw [eq];omega);have HVD:Hid (eO m a g p c d L i=(nS (cQ (L[i]'hltL).kind (L.take i)) (one m a g p c d (L[i]'hltL)).1,⟨(L[i]'hltL).kind,nU (cQ (L[i]'hltL).kind (L.take i)) (L[i]'hltL).data (one m a g p c d (L[i]'hltL)).2.data⟩)):=aa ((gC m a g p c d L i hltL).trans (oJ m a g p c d (L.take i) (L[i]'hltL).kind (L[i]'hltL).data));have HKI:=aa fun k (hk:k<i)=>mW (L[i]'hltL).kind L k (by omega)
      have C:=aa fun v=>sJ m a g p c d (L[i]'hltL).kind (L[i]'hltL).data v ha hg hds
      generalize L[i]'hltL=o at *;obtain ⟨kd,dt⟩:=o;dsimp only at k0 k1 hds HVD HKI C;generalize one m a g p c d ⟨kd,dt⟩=r1 at *;obtain ⟨x1,k1',t1⟩:=r1;dsimp only [aQ] at HVD C;generalize fl 3 (dL m a g p c d L i)=Fn at *;generalize fl 4 (dL m a g p c d L i)=Fr at *;generalize eO m a g p c d L i=v at *;have hsz:=hV.size;have hNl:=hV.lt;have HW:=aa fun (q:World) (hq:Below w.heap.size w q)=>zA ((hq.cell (p:=⟨gL,i*2,none⟩) hgl).trans k0) ((hq.cell (p:=⟨gL,i*2+1,none⟩) hgl).trans k1)
      have HV:=aa hV;clear hV k0 k1 hltL;go_upto_region 8 with fail
      go_cut [8,9] (fun u y wx=>∃ X,u=.int .i64 x1∧y=.pointer (some ⟨X,0,none⟩)∧RpX w N #[.int .i64 m,.int .i64 a,.int .i64 g,.bool p,.bool c,.bool d] (.slice adn Fn.length cpn) (.slice adr Fr.length cpr) Fn Fr kd t1 X wx)
      case first =>
        have hBw:=(uh HV).b;have hws:=hBw.size;obtain ⟨b0,b1,b2,b3,b4,b5⟩:=aJ (uh HV).c;obtain ⟨k0,k1⟩:=uh HW wr hBw;have e1:¬ (w.heap.size=wr.heap.size):=by omega
        have e2:¬ (wr.heap.size=w.heap.size):=by omega
        have e3:¬ (gL=wr.heap.size):=by omega
        have e4:¬ (wr.heap.size=gL):=by omega
        have HLL:Hid (wr.heap.size<(wr.drew.alloc (.cells #[.int .i64 0,.string ⟨#[]⟩] 105)).heap.size):=aa (by simp);clear hBw HF3 HF4 HVC HVD HKI HL HK
        go_region_held3 (fun z=>z.cell? ⟨w.heap.size,0,none⟩=some (.int .i64 m)∧z.cell? ⟨w.heap.size,1,none⟩=some (.int .i64 a)∧z.cell? ⟨w.heap.size,2,none⟩=some (.int .i64 g)∧z.cell? ⟨w.heap.size,3,none⟩=some (.bool p)∧z.cell? ⟨w.heap.size,4,none⟩=some (.bool c)∧z.cell? ⟨w.heap.size,5,none⟩=some (.bool d)∧z.cell? ⟨gL,i*2,none⟩=some (.int .i64 kd)∧z.cell? ⟨gL,i*2+1,none⟩=some (.string dt))
          (first | (exact uh K3) | (exact uh K4) | go_keep)
          (first
          | (go_at_call 128;refine (uh C (wr.drew.alloc (.cells #[.int .i64 0,.string ⟨#[]⟩] 105))).mono ?_;rintro e w3 ⟨rfl,hb3⟩
             have h3:RpX w N #[.int .i64 m,.int .i64 a,.int .i64 g,.bool p,.bool c,.bool d] (.slice adn Fn.length cpn) (.slice adr Fr.length cpr) Fn Fr 0 ⟨#[]⟩ wr.heap.size w3:=(RpX.new1 (uh HV).drew (zC _ _) 0 ⟨#[]⟩).step hb3;obtain ⟨b0,b1,b2,b3,b4,b5⟩:=aJ h3.s.c;obtain ⟨k0,k1⟩:=uh HW w3 h3.s.b;obtain ⟨o0,o1,f0,f1⟩:=av h3.x;have K3:=aa (zA b0 (zA b1 (zA b2 (zA b3 (zA b4 (zA b5 (zA k0 k1)))))));have H3:=aa h3;clear h3 hb3)
          | (go_at_call 128;refine (uh C wr.drew).mono ?_;rintro e w4 ⟨rfl,hb4⟩
             have h4:=(uh HV).drew.step hb4;obtain ⟨b0,b1,b2,b3,b4,b5⟩:=aJ h4.c;obtain ⟨k0,k1⟩:=uh HW w4 h4.b;have hz4:=hb4.size;have e5:¬ (w.heap.size=w4.heap.size):=by have:=h4.size;have:=h4.lt;omega
             have e6:¬ (w4.heap.size=w.heap.size):=by have:=h4.size;have:=h4.lt;omega
             have e7:¬ (gL=w4.heap.size):=by have:=h4.size;have:=h4.lt;omega
             have e8:¬ (w4.heap.size=gL):=by have:=h4.size;have:=h4.lt;omega
             have K4:=aa (zA b0 (zA b1 (zA b2 (zA b3 (zA b4 (zA b5 (zA k0 k1)))))));have H4:=aa h4;clear h4 hb4 hz4))
        all_goals
          go_wp2_with fail
          go_meet
          first
            | exact ⟨_,rfl,rfl,RpX.new1 (uh H4) (zC _ _) kd t1⟩
            | exact ⟨_,rfl,rfl,(uh H3).put kd t1⟩
      case rest =>
      obtain ⟨X,hu8,hu9,hX⟩:=hcut;subst hu8 hu9;clear HV C;have HX:=aa hX;clear hX;go_wp2_with fail
      go_loopw [8,10] (fun u y wq=>∃ (k:Nat),k≤i∧y=.int .i64 k∧u=.int .i64 (nS (cQ kd (L.take k)) x1)∧RpX w N #[.int .i64 m,.int .i64 a,.int .i64 g,.bool p,.bool c,.bool d] (.slice adn Fn.length cpn) (.slice adr Fr.length cpr) Fn Fr kd (nU (cQ kd (L.take k)) dt t1) X wq) (fun _ y _=>i - (intOf y).toNat)
      case atStart=>exact ⟨0,Nat.zero_le _,rfl,rfl,uh HX⟩
      case round =>
        obtain ⟨k,hk,rfl,rfl,hX⟩:=hrel;clear HX;by_cases hlk:k<i
        · clear HF3 HF4 HVC HVD
          have d2:(k:Int)<(i:Int):=by omega
          have d3:(k:Int)<(n:Int):=by omega
          have d4:(0:Int)≤(k:Int):=by omega
          obtain ⟨gL',hgg,_,j0,_⟩:=uh HL k (by omega);cases hgg;replace j0:=(hX.s.b.cell (p:=⟨gL,k*2,none⟩) hgl).trans j0;obtain ⟨k0,k1⟩:=uh HW wr hX.s.b;have HS:=aa (uh HKI k hlk);generalize (L[k]'(by omega)).kind=kk at *;have HX:=aa hX;clear hX HKI HL HK;generalize cQ kd (L.take k)=b1 at *;obtain ⟨o0,o1,f0,f1⟩:=av (uh HX).x;cases hq:(kk == kd)
          · rw [hq,Bool.or_false] at HS
            go_wp2_with fail
            go_quiet (fail)
            go_wp2_with fail
            go_roundw
            case rel=>exact ⟨k+1,by omega,by go_num,by rw [uh HS],by rw [uh HS];exact (uh HX).drewN _⟩
            case measure=>simp [intOf];omega
          · rw [hq,Bool.or_true] at HS
            go_wp2_with fail
            go_quiet (fail)
            go_wp2_with fail
            go_roundw
            case rel=>exact ⟨k+1,by omega,by go_num,by rw [uh HS];rfl,by rw [uh HS];exact ((uh HX).drewN _).put kd dt⟩
            case measure=>simp [intOf];omega
        · have e:k=i:=by omega
          subst e;have d2:¬ ((k:Int)<(k:Int)):=by omega
          have hvd:=uh HVD;generalize nS (cQ kd (L.take k)) x1=x at *;generalize nU (cQ kd (L.take k)) dt t1=t at *;subst hvd;dsimp only at HF3 HF4 HVC;obtain ⟨o0,o1,_,_⟩:=av hX.x;obtain ⟨n0,n1,g0,g1⟩:=av hX.s.n;obtain ⟨j0,j1,h0,h1⟩:=av hX.s.j;have hs1:=hX.s.size;have HX:=aa hX;have HVX:Hid (x=2∨x=3∨x=4):=by
            rcases uh HVC with h | h | h
            · exact aa (Or.inl h.1)
            · exact aa (Or.inr (Or.inl h))
            · exact aa (Or.inr (Or.inr h))
          clear hX HVC HVD HKI HL HK HW;rcases uh HVX with rfl | rfl | rfl
          · go_wp2_with fail
            go_roundw
            case rel =>
              refine ⟨k+1,adn,cpn,adr,cpr,by omega,by go_num,?_⟩;rw [uh HF3,uh HF4,if_neg (by decide),if_neg (by decide),List.append_nil,List.append_nil];exact (uh HX).s
            case measure=>simp [intOf];omega
          · go_wp2_with (first
              | (at_builtin;refine fY rfl _ _ rfl (N+1+1) (.slice adn Fn.length cpn) Fn Fn.length rfl rfl (uh HX).s.on kd t rfl (by omega) hs1 ?_;rintro v6 w6 ho6 hg6 hat6;obtain ⟨a6,c6,rfl⟩:=af ho6
                 have hA6:=(uh HX).s.appN ho6 hg6 hat6;have hn6:w6.heap[N]?=some (.cells #[.int .i64 3,.slice adn Fn.length cpn] 97):=(hg6.block N (by simp;omega) (fun e=>by have:=(World.ownsRow.lt (uh HX).s.on N e.symm).1;omega)).trans ((zG _ _ _ (by omega)).trans (uh HX).s.n);obtain ⟨n0,n1,g0,g1⟩:=av hn6;have HA6:=aa hA6;clear hA6 hn6 ho6 hg6 hat6))
            go_roundw
            case rel =>
              refine ⟨k+1,a6,c6,adr,cpr,by omega,by go_num,?_⟩;rw [uh HF3,uh HF4,if_pos (by decide),if_neg (by decide),List.append_nil,List.length_append];exact uh HA6
            case measure=>simp [intOf];omega
          · go_wp2_with (first
              | (at_builtin;refine fY rfl _ _ rfl (N+1+1) (.slice adr Fr.length cpr) Fr Fr.length rfl rfl (uh HX).s.oj kd t rfl (by omega) hs1 ?_;rintro v6 w6 ho6 hg6 hat6;obtain ⟨a6,c6,rfl⟩:=af ho6
                 have hA6:=(uh HX).s.appR ho6 hg6 hat6;have hn6:w6.heap[N+1]?=some (.cells #[.int .i64 4,.slice adr Fr.length cpr] 97):=(hg6.block (N+1) (by simp;omega) (fun e=>by have:=(World.ownsRow.lt (uh HX).s.oj (N+1) e.symm).1;omega)).trans ((zG _ _ _ (by omega)).trans (uh HX).s.j);obtain ⟨j0,j1,h0,h1⟩:=av hn6;have HA6:=aa hA6;clear hA6 hn6 ho6 hg6 hat6))
            go_roundw
            case rel =>
              refine ⟨k+1,adn,cpn,a6,c6,by omega,by go_num,?_⟩;rw [uh HF3,uh HF4,if_neg (by decide),if_pos (by decide),List.append_nil,List.length_append];exact uh HA6
            case measure=>simp [intOf];omega
    · have e:i=n:=by omega
      subst e;have d1:¬ ((i:Int)<(i:Int)):=by omega
      obtain ⟨n0,n1,_,_⟩:=av hV.n;obtain ⟨j0,j1,_,_⟩:=av hV.j;obtain ⟨r0,r1,f0,f1⟩:=av hV.r;have hsz:=hV.size;have hNl:=hV.lt;have HV:=aa hV;clear hV HL HK;generalize fl 3 (dL m a g p c d L i)=Fn at *;generalize fl 4 (dL m a g p c d L i)=Fr at *;by_cases h4:Fr=[]
      · have d4:¬ ((0:Int)<(Fr.length:Int)):=by rw [h4];simp
        by_cases h3:Fn=[]
        · have d3:¬ ((0:Int)<(Fn.length:Int)):=by rw [h3];simp
          obtain ⟨hX,hF⟩:=(uh HFin).2.2 h4 h3;subst hX;subst hF;clear HFin h4 h3;have hBA:Below w.heap.size w (wr.alloc (.cells #[] 105)):=(uh HV).b.alloc (uh HV).b.size _;have hw0:(wr.alloc (.cells #[] 105)).ownsRow (N+1+1) 105 2 (.slice (some ⟨wr.heap.size,0,none⟩) 0 0) ([]:List Op.Opt).length (aj []):=World.ownsRow_lit wr #[] 0 hsz (Nat.zero_le _) rfl;have HW0:=aa (zA hBA (zA hw0 ((uh HLO).below hBA rfl)));have HG:Hid (∀ w6:World,(wr.alloc (.cells #[] 105)).grownBy w6 (Value.slice (some ⟨wr.heap.size,0,none⟩) 0 0).ownBlock→w6.heap[w.heap.size+1]?=some (.cells #[.int .i64 0,.slice none 0 0] 97)∧Below w.heap.size w w6):=aa fun w6 hg6=>by
            have hza:(wr.alloc (.cells #[] 105)).heap.size=wr.heap.size+1:=by simp
            refine ⟨(hg6.block _ (by rw [hza];omega) (fun e=>?_)).trans ((zG _ _ _ (by omega)).trans (uh HV).r),hBA.trans ⟨hg6.os,hg6.tape,hg6.output,hg6.size,fun q hq=>hg6.block q (by rw [hza];omega) (fun e=>?_)⟩⟩
            · have h9:w.heap.size+1=wr.heap.size:=Option.some.inj e
              omega
            · have h9:q=wr.heap.size:=Option.some.inj e
              omega
          have HFl:Hid (F.length≤1000):=aa (by omega);have HBs:Hid (N+1+1≤(wr.alloc (.cells #[] 105)).heap.size):=aa (by simp;omega);clear hBA hw0 HLO hn
          go_wp2_with (first
            | (at_builtin;refine fM rfl _ _ rfl (N+1+1) (.slice (some ⟨wr.heap.size,0,none⟩) 0 0) (.slice ad i cp) [] F rfl rfl (uh HW0).2.1 (uh HW0).2.2 (Nat.zero_le _) (zE (uh HFl) (by decide)) (uh HBs) ?_;rintro v6 w6 ho6 hg6
               rw [List.nil_append] at ho6;obtain ⟨a6,c6,rfl⟩:=af ho6;obtain ⟨hr6,hb6⟩:=uh HG _ hg6;obtain ⟨r0,r1,f0,f1⟩:=av hr6;have H6:=aa (zA hr6 (zA hb6 ho6));clear hr6 hb6 ho6 hg6))
          refine bodyPost_ret (v:=.agg #[.int .i64 2,.slice a6 F.length c6]) (by simp [results,results109,asAddr,dM (aM (uh H6).1 (.int .i64 2) (.slice a6 F.length c6))]) rfl ⟨a6,c6,rfl,?_,((uh H6).2.1.setCell (p:=⟨w.heap.size+1,0,none⟩) (Nat.le_succ _) _).setCell (p:=⟨w.heap.size+1,1,none⟩) (Nat.le_succ _) _⟩;refine dy (aY (uh H6).2.2 fun q hq _=>?_) (by omega);rw [Below.heap_setCell _ _ _ _ (by simp;omega),Below.heap_setCell _ _ _ _ (by simp;omega)]
        · have d3:(0:Int)<(Fn.length:Int):=by have:=List.length_pos_iff.2 h3;omega
          obtain ⟨hX,hF⟩:=(uh HFin).2.1 h4 h3;subst hX;subst hF;clear HFin h4 h3 HLO;go_wp2
          refine bodyPost_ret (v:=.agg #[.int .i64 3,.slice adn F.length cpn]) (by simp [results,results109,asAddr,dM (aM (uh HV).r (.int .i64 3) (.slice adn F.length cpn))]) rfl ⟨adn,cpn,rfl,?_,((uh HV).b.setCell (p:=⟨w.heap.size+1,0,none⟩) (Nat.le_succ _) _).setCell (p:=⟨w.heap.size+1,1,none⟩) (Nat.le_succ _) _⟩;refine dy (aY (uh HV).on fun q hq _=>?_) (by omega);rw [Below.heap_setCell _ _ _ _ (by simp;omega),Below.heap_setCell _ _ _ _ (by simp;omega)]
      · have d4:(0:Int)<(Fr.length:Int):=by have:=List.length_pos_iff.2 h4;omega
        obtain ⟨hX,hF⟩:=(uh HFin).1 h4;subst hX;subst hF;clear HFin h4 HLO;go_wp2
        refine bodyPost_ret (v:=.agg #[.int .i64 4,.slice adr F.length cpr]) (by simp [results,results109,asAddr,dM (aM (uh HV).r (.int .i64 4) (.slice adr F.length cpr))]) rfl ⟨adr,cpr,rfl,?_,((uh HV).b.setCell (p:=⟨w.heap.size+1,0,none⟩) (Nat.le_succ _) _).setCell (p:=⟨w.heap.size+1,1,none⟩) (Nat.le_succ _) _⟩;refine dy (aY (uh HV).oj fun q hq _=>?_) (by omega);rw [Below.heap_setCell _ _ _ _ (by simp;omega),Below.heap_setCell _ _ _ _ (by simp;omega)]
end Go.Proofs.YtjdgiimfpkideaaGreatDoor
