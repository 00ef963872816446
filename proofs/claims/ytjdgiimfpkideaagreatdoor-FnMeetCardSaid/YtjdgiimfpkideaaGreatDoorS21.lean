/- SpecOne -/
import Derived.Test.YtjdgiimfpkideaaGreatDoorS18
set_option maxHeartbeats 2000000
namespace Go.Proofs.YtjdgiimfpkideaaGreatDoor
open Go.RowKit Go.Proofs.Tryz
variable {w q:World} {C O R:Array Value}
theorem d_(w:World)(a b c:Obj):(((w.alloc a).alloc b).alloc c).heap[w.heap.size]?=some a/\(((w.alloc a).alloc b).alloc c).heap[w.heap.size+1]?=some b/\(((w.alloc a).alloc b).alloc c).heap[w.heap.size+1+1]?=some c/\Below w w (((w.alloc a).alloc b).alloc c):=by
 have s1:(w.alloc a).heap.size=w.heap.size+1:=by simp
 have s2:((w.alloc a).alloc b).heap.size=w.heap.size+1+1:=by simp
 have e1:=zF w a;have e2:=zF (w.alloc a) b;have e3:=zF ((w.alloc a).alloc b) c;rw[s1]at e2;rw[s2]at e3;refine⟨?_,?_,e3,(((zC _ _).alloc (zD _) _).alloc (by omega) _).alloc (by omega) _⟩
 .rw [zG _ _ _ (by omega),zG _ _ _ (by omega)];exact e1
 .rw [zG _ _ _ (by omega)];exact e2
structure OnS(w:World)(C O R:Array Value)(q:World):Prop where
 c:q.heap[w.heap.size]?=some (.cells C 24)
 o:q.heap[w.heap.size+1]?=some (.cells O 105)
 r:q.heap[w.heap.size+1+1]?=some (.cells R 105)
 b:Below w w q
theorem OnS.step{q':World}(h:OnS w C O R q)(hb:Below q q q'):OnS w C O R q' :=
 ⟨(hb.block _ (ge.1 h.c).1).trans h.c,(hb.block _ (ge.1 h.o).1).trans h.o,(hb.block _ (ge.1 h.r).1).trans h.r,h.b.trans (hb.mono h.b.size)⟩
theorem OnS.drew(h:OnS w C O R q):OnS w C O R q.drew:=⟨h.c,h.o,h.r,h.b.drew⟩
theorem ce{W:World}{E:Nat}{x0 x1:Value}(h:W.heap[E]?=some (.cells #[x0,x1] 105)):(loadVar 105 (E,0)).run prog W.drew=.ok (.agg #[x0,x1]) W.drew:=jO (W:=W.drew) h
theorem OnS.fin(h:OnS w C O R q)(x0 x1:Value):Below w w ((q.setCell ⟨w.heap.size+1+1,0,none⟩ x0).setCell ⟨w.heap.size+1+1,1,none⟩ x1) :=
 (h.b.setCell (p:=⟨w.heap.size+1+1,0,none⟩) (by simp;omega) _).setCell (p:=⟨w.heap.size+1+1,1,none⟩) (by simp;omega) _
def aQ(x:Int)(k:Int)(t:ByteArray):Value:=.tuple #[x,.agg #[k,t]]
theorem xi(m a g:Nat)(p c d:Bool)(t:ByteArray)(w:World)(ht:t.size<=20):Calls prog 128 #[cN m a g p c d,.agg #[(1:Int),t]] w fun e w'=>e=.returned (aQ (one m a g p c d ⟨1,t⟩).1 1 (one m a g p c d ⟨1,t⟩).2.data)/\Below w w w':=by
 obtain⟨q0,q1,q2,hb0⟩:=d_ w (.cells #[m,a,g,p,c,d] 24) (.cells #[(1:Int),t] 105) (.cells #[(0:Int),.string ⟨#[]⟩] 105);have HQ:=aa (OnS.mk q0 q1 q2 hb0);have hne1:¬(w.heap.size=w.heap.size+1+1):=by omega
 have hne2:¬(w.heap.size+1+1=w.heap.size):=by omega
 clear q0 q1 q2 hb0;by_cases hs:t.size=2
 .have hsz:bN 1=some t.size:=by rw[hs];rfl
  have C1:=aa fun v=>dX t 2 v (by decide) hs
  have HO:Hid (one m a g p c d ⟨1,t⟩=(gc (bh 64 300 (da t.data.toList:Nat)) 3,⟨1,if gc (bh 64 300 (da t.data.toList:Nat)) 3==3 then ji m else t⟩)):=aa (if_pos hsz);have C2:=aa fun v=>dl (da t.data.toList:Nat) 64 300 v
  generalize da t.data.toList=n at*;rw[uh HO];clear HO hsz;generalize bh 64 300 (n:Int)=ok at*;go_enter func128,ntmps128
  go_upto_region 3 with fail
  refine bb _ HQ.out ?_;clear HQ;rintro q hq;obtain⟨c0,c1,c2,c3,c4,c5⟩:=aJ hq.c;obtain⟨o0,o1,_,_⟩:=av hq.o;obtain⟨r0,r1,f0,f1⟩:=av hq.r;have HH:=aa hq;clear hq;go_wp2_with fail
  refine cq (uh C1 _) ?_;cases ok
  .go_wp2_with fail
   refine cq (uh C2 _) ?_;go_upto_region 7 with fail
   go_region_held3 (fun z=>z.cell? (w,0)=some (.int .i64 m)/\z.cell? (w.heap.size+1,0)=some ((1:Int):V)) (first|(exact uh K3)|(exact uh K4)|go_keep)
    (first
    | (go_at_call 106;refine(tD m _).mono ?_;rintro e w3⟨rfl,hb3⟩
       have h3:=HH.out.drew.step hb3;obtain⟨c0,c1,c2,_,_,_⟩:=aJ h3.c;obtain⟨o0,o1,_,_⟩:=av h3.o;obtain⟨r0,r1,f0,f1⟩:=av h3.r;have K3:=aa (zA c0 o0);have H3:=aa h3;clear h3 hb3))
   all_goals
    go_wp2
    refine bodyPost_ret (v:=aQ 3 1 (ji m)) (by simp[aQ,results,results128,asAddr,jO (aM H3.out.r (1:Int) (.string (ji m)))]) rfl ⟨rfl,H3.out.fin _ _⟩
  .go_wp2_with fail
   refine cq (uh C2 _) ?_;go_wp2_with fail
   go_region
   all_goals
    go_wp2
    refine bodyPost_ret (v:=aQ 2 1 t) (by simp[aQ,results,results128,asAddr,ce (aM HH.out.r (1:Int) t)]) rfl ⟨rfl,(HH.out.fin _ _).drew⟩
 .have hsz:¬(bN 1=some t.size):=fun e=>hs (Option.some.inj e).symm
  have C1:=aa fun v=>eN t 2 v ht hs
  rw[show one m a g p c d ⟨1,t⟩=(4,⟨1,t⟩)from if_neg hsz];go_enter func128,ntmps128
  go_upto_region 3 with fail
  refine bb _ HQ.out ?_;clear HQ;rintro q hq;obtain⟨c0,c1,c2,c3,c4,c5⟩:=aJ hq.c;obtain⟨o0,o1,_,_⟩:=av hq.o;obtain⟨r0,r1,f0,f1⟩:=av hq.r;have HH:=aa hq;clear hq;go_wp2_with fail
  refine cq (uh C1 _) ?_;go_wp2_with fail
  go_region
  all_goals
   go_wp2
   refine bodyPost_ret (v:=aQ 4 1 t) (by simp[aQ,results,results128,asAddr,ce (aM HH.out.r (1:Int) t)]) rfl ⟨rfl,(HH.out.fin _ _).drew⟩
theorem xj(m a g:Nat)(p c d:Bool)(t:ByteArray)(w:World)(ht:t.size<=20)(ha:a<4294967296):Calls prog 128 #[cN m a g p c d,.agg #[(2:Int),t]] w fun e w'=>e=.returned (aQ (one m a g p c d ⟨2,t⟩).1 2 (one m a g p c d ⟨2,t⟩).2.data)/\Below w w w':=by
 obtain⟨q0,q1,q2,hb0⟩:=d_ w (.cells #[m,a,g,p,c,d] 24) (.cells #[(2:Int),t] 105) (.cells #[(0:Int),.string ⟨#[]⟩] 105);have HQ:=aa (OnS.mk q0 q1 q2 hb0);have hne1:¬(w.heap.size=w.heap.size+1+1):=by omega
 have hne2:¬(w.heap.size+1+1=w.heap.size):=by omega
 clear q0 q1 q2 hb0;by_cases hs:t.size=4
 .have hsz:bN 2=some t.size:=by rw[hs];rfl
  have C1:=aa fun v=>dX t 4 v (by decide) hs
  have HO:Hid (one m a g p c d ⟨2,t⟩=(gc (((da t.data.toList ||| a:Nat):Int)==(da t.data.toList:Int)) 3,⟨2,if gc (((da t.data.toList ||| a:Nat):Int)==(da t.data.toList:Int)) 3==3 then cK (da t.data.toList ||| a)else t⟩)):=aa (if_pos hsz);have hn4:=eM t.data.toList (by rw[bC];omega);generalize da t.data.toList=n at*;rw[uh HO];clear HO hsz;have hnd:=kP n a hn4 ha;have hor:=iZ n a hn4 ha;have hao:=uq n a;by_cases hq:n ||| a=n
  .have e1:n &&& a=a:=hao.2 hq;rw[e1]at hnd;have e2:((a:Int) != (a:Int))=false:=by simp
   have HR:Hid (aQ (gc (((n ||| a:Nat):Int)==(n:Int)) 3) 2 (if gc (((n ||| a:Nat):Int)==(n:Int)) 3==3 then cK (n ||| a)else t)=aQ 2 2 t):=aa (by rw[hq];simp[gc]);dsimp only;rw[uh HR];clear HR;clear hor hao hq e1;go_enter func128,ntmps128
   go_upto_region 3 with fail
   refine bb _ HQ.out ?_;clear HQ;rintro q hq;obtain⟨c0,c1,c2,c3,c4,c5⟩:=aJ hq.c;obtain⟨o0,o1,_,_⟩:=av hq.o;obtain⟨r0,r1,f0,f1⟩:=av hq.r;have HH:=aa hq;clear hq;go_wp2_with fail
   refine cq (uh C1 _) ?_;go_wp2_with fail
   go_region
   all_goals
    go_wp2
    refine bodyPost_ret (v:=aQ 2 2 t) (by simp[aQ,results,results128,asAddr,ce (aM HH.out.r (2:Int) t)]) rfl ⟨rfl,(HH.out.fin _ _).drew⟩
  .have e1:¬(n &&& a=a):=fun e=>hq (hao.1 e)
   have e2:(((n &&& a:Nat):Int) != (a:Int))=true:=by simp;omega
   have HR:Hid (aQ (gc (((n ||| a:Nat):Int)==(n:Int)) 3) 2 (if gc (((n ||| a:Nat):Int)==(n:Int)) 3==3 then cK (n ||| a)else t)=aQ 3 2 (cK (n ||| a))):=aa (by
    have:(((n ||| a:Nat):Int)==(n:Int))=false:=zL (by omega)
    rw[this];rfl)
   dsimp only;rw[uh HR];clear HR;generalize n &&& a=na at*;generalize n ||| a=x at*
   clear hao hq e1;go_enter func128,ntmps128
   go_upto_region 3 with fail
   refine bb _ HQ.out ?_;clear HQ;rintro q hq;obtain⟨c0,c1,c2,c3,c4,c5⟩:=aJ hq.c;obtain⟨o0,o1,_,_⟩:=av hq.o;obtain⟨r0,r1,f0,f1⟩:=av hq.r;have HH:=aa hq;clear hq;go_wp2_with fail
   refine cq (uh C1 _) ?_;go_upto_region 11 with fail
   go_region_held3 (fun z=>z.cell? (w,1)=some (.int .i64 a)/\z.cell? (w.heap.size+1,0)=some ((2:Int):V)) (first|(exact uh K3)|(exact uh K4)|go_keep)
    (first
    | (go_at_call 106;refine(jR x _).mono ?_;rintro e w3⟨rfl,hb3⟩
       have h3:=HH.out.drew.step hb3;obtain⟨c0,c1,c2,_,_,_⟩:=aJ h3.c;obtain⟨o0,o1,_,_⟩:=av h3.o;obtain⟨r0,r1,f0,f1⟩:=av h3.r;have K3:=aa (zA c1 o0);have H3:=aa h3;clear h3 hb3))
   all_goals
    go_wp2
    refine bodyPost_ret (v:=aQ 3 2 (cK x)) (by simp[aQ,results,results128,asAddr,jO (aM H3.out.r (2:Int) (.string (cK x)))]) rfl ⟨rfl,H3.out.fin _ _⟩
 .have hsz:¬(bN 2=some t.size):=fun e=>hs (Option.some.inj e).symm
  have C1:=aa fun v=>eN t 4 v ht hs
  rw[show one m a g p c d ⟨2,t⟩=(4,⟨2,t⟩)from if_neg hsz];go_enter func128,ntmps128
  go_upto_region 3 with fail
  refine bb _ HQ.out ?_;clear HQ;rintro q hq;obtain⟨c0,c1,c2,c3,c4,c5⟩:=aJ hq.c;obtain⟨o0,o1,_,_⟩:=av hq.o;obtain⟨r0,r1,f0,f1⟩:=av hq.r;have HH:=aa hq;clear hq;go_wp2_with fail
  refine cq (uh C1 _) ?_;go_wp2_with fail
  go_region
  all_goals
   go_wp2
   refine bodyPost_ret (v:=aQ 4 2 t) (by simp[aQ,results,results128,asAddr,ce (aM HH.out.r (2:Int) t)]) rfl ⟨rfl,(HH.out.fin _ _).drew⟩
theorem sI(r:Nat)(w:World):Calls prog 127 #[(1:Int),r] w fun e w'=>e=.returned (.int .i64 (max 1 r:Nat))/\Below w w w':=by
 by_cases h:(r:Int)<1
 .go_enter func127,ntmps127
  go_wp2
  go_ret
  exact⟨j8 (by omega),zC _ _⟩
 .go_enter func127,ntmps127
  go_wp2
  go_ret
  exact⟨j8 (by omega),zC _ _⟩
theorem xk(m a g:Nat)(p c d:Bool)(t:ByteArray)(w:World)(ht:t.size<=20)(hg:g<4294967296):Calls prog 128 #[cN m a g p c d,.agg #[(5:Int),t]] w fun e w'=>e=.returned (aQ (one m a g p c d ⟨5,t⟩).1 5 (one m a g p c d ⟨5,t⟩).2.data)/\Below w w w':=by
 obtain⟨q0,q1,q2,hb0⟩:=d_ w (.cells #[m,a,g,p,c,d] 24) (.cells #[(5:Int),t] 105) (.cells #[(0:Int),.string ⟨#[]⟩] 105);have HQ:=aa (OnS.mk q0 q1 q2 hb0);have hne1:¬(w.heap.size=w.heap.size+1+1):=by omega
 have hne2:¬(w.heap.size+1+1=w.heap.size):=by omega
 clear q0 q1 q2 hb0;by_cases hs:t.size=4
 .have hsz:bN 5=some t.size:=by rw[hs];rfl
  have C1:=aa fun v=>dX t 4 v (by decide) hs
  have HO:Hid (one m a g p c d ⟨5,t⟩=(gc ((da t.data.toList:Int) != 0&&(da t.data.toList:Int) != (g:Int)) 3,⟨5,if gc ((da t.data.toList:Int) != 0&&(da t.data.toList:Int) != (g:Int)) 3==3 then cK (fv g)else t⟩)):=aa (if_pos hsz);have hand:=tF g hg;have CX:=aa fun v=>sI ((g+77)%4294967296) v
  generalize da t.data.toList=n at*;rw[uh HO];clear HO hsz;change Hid (∀v,Calls _ _ _ v fun e w'=>e=.returned (.int .i64 (fv g:Nat))/\Below v v w')at CX
  generalize fv g=mg at*;generalize (g+77)%4294967296=r77 at*;cases hq0:((n:Int)==0)
  .cases hq1:((n:Int)==(g:Int))
   .have HR:Hid (aQ (gc ((n:Int) != 0&&(n:Int) != (g:Int)) 3) 5 (if gc ((n:Int) != 0&&(n:Int) != (g:Int)) 3==3 then cK mg else t)=aQ 2 5 t):=aa (by simp only[bne,hq0,hq1];rfl);dsimp only;rw[uh HR];clear HR;clear CX;go_enter func128,ntmps128
    go_upto_region 3 with fail
    refine bb _ HQ.out ?_;clear HQ;rintro q hq;obtain⟨c0,c1,c2,c3,c4,c5⟩:=aJ hq.c;obtain⟨o0,o1,_,_⟩:=av hq.o;obtain⟨r0,r1,f0,f1⟩:=av hq.r;have HH:=aa hq;clear hq;go_wp2_with fail
    refine cq (uh C1 _) ?_;go_wp2_with fail
    go_region
    all_goals
     go_wp2
     refine bodyPost_ret (v:=aQ 2 5 t) (by simp[aQ,results,results128,asAddr,ce (aM HH.out.r (5:Int) t)]) rfl ⟨rfl,(HH.out.fin _ _).drew⟩
   .have HR:Hid (aQ (gc ((n:Int) != 0&&(n:Int) != (g:Int)) 3) 5 (if gc ((n:Int) != 0&&(n:Int) != (g:Int)) 3==3 then cK mg else t)=aQ 3 5 (cK mg)):=aa (by simp only[bne,hq0,hq1];rfl);dsimp only;rw[uh HR];clear HR;go_enter func128,ntmps128
    go_upto_region 3 with fail
    refine bb _ HQ.out ?_;clear HQ;rintro q hq;obtain⟨c0,c1,c2,c3,c4,c5⟩:=aJ hq.c;obtain⟨o0,o1,_,_⟩:=av hq.o;obtain⟨r0,r1,f0,f1⟩:=av hq.r;have HH:=aa hq;clear hq;go_wp2_with fail
    refine cq (uh C1 _) ?_;go_upto_region 16 with fail
    go_region_held3 (fun z=>z.cell? (w.heap.size+1,0)=some ((5:Int):V)) (first|(exact uh K3)|(exact uh K4)|go_keep)
     (first
     | (go_at_call 127;refine(uh CX _).mono ?_;rintro e w4⟨rfl,hb4⟩
        have h4:=HH.out.drew.step hb4;obtain⟨c0,c1,c2,_,_,_⟩:=aJ h4.c;obtain⟨o0,o1,_,_⟩:=av h4.o;obtain⟨r0,r1,f0,f1⟩:=av h4.r;have K4:=aa o0;have H4:=aa h4;clear h4 hb4)
     | (go_at_call 106;refine(jR mg _).mono ?_;rintro e w3⟨rfl,hb3⟩
        have h3:=H4.out.step hb3;obtain⟨c0,c1,c2,_,_,_⟩:=aJ h3.c;obtain⟨o0,o1,_,_⟩:=av h3.o;obtain⟨r0,r1,f0,f1⟩:=av h3.r;have K3:=aa (o0);have H3:=aa h3;clear h3 hb3))
    all_goals
     go_wp2
     refine bodyPost_ret (v:=aQ 3 5 (cK mg)) (by simp[aQ,results,results128,asAddr,jO (aM H3.out.r (5:Int) (.string (cK mg)))]) rfl ⟨rfl,H3.out.fin _ _⟩
  .have HR:Hid (aQ (gc ((n:Int) != 0&&(n:Int) != (g:Int)) 3) 5 (if gc ((n:Int) != 0&&(n:Int) != (g:Int)) 3==3 then cK mg else t)=aQ 3 5 (cK mg)):=aa (by simp only[bne,hq0];rfl);dsimp only;rw[uh HR];clear HR;go_enter func128,ntmps128
   go_upto_region 3 with fail
   refine bb _ HQ.out ?_;clear HQ;rintro q hq;obtain⟨c0,c1,c2,c3,c4,c5⟩:=aJ hq.c;obtain⟨o0,o1,_,_⟩:=av hq.o;obtain⟨r0,r1,f0,f1⟩:=av hq.r;have HH:=aa hq;clear hq;go_wp2_with fail
   refine cq (uh C1 _) ?_;go_upto_region 16 with fail
   go_region_held3 (fun z=>z.cell? (w.heap.size+1,0)=some ((5:Int):V)) (first|(exact uh K3)|(exact uh K4)|go_keep)
    (first
    | (go_at_call 127;refine(uh CX _).mono ?_;rintro e w4⟨rfl,hb4⟩
       have h4:=HH.out.drew.step hb4;obtain⟨c0,c1,c2,_,_,_⟩:=aJ h4.c;obtain⟨o0,o1,_,_⟩:=av h4.o;obtain⟨r0,r1,f0,f1⟩:=av h4.r;have K4:=aa o0;have H4:=aa h4;clear h4 hb4)
    | (go_at_call 106;refine(jR mg _).mono ?_;rintro e w3⟨rfl,hb3⟩
       have h3:=H4.out.step hb3;obtain⟨c0,c1,c2,_,_,_⟩:=aJ h3.c;obtain⟨o0,o1,_,_⟩:=av h3.o;obtain⟨r0,r1,f0,f1⟩:=av h3.r;have K3:=aa (o0);have H3:=aa h3;clear h3 hb3))
   all_goals
    go_wp2
    refine bodyPost_ret (v:=aQ 3 5 (cK mg)) (by simp[aQ,results,results128,asAddr,jO (aM H3.out.r (5:Int) (.string (cK mg)))]) rfl ⟨rfl,H3.out.fin _ _⟩
 .have hsz:¬(bN 5=some t.size):=fun e=>hs (Option.some.inj e).symm
  have C1:=aa fun v=>eN t 4 v ht hs
  rw[show one m a g p c d ⟨5,t⟩=(4,⟨5,t⟩)from if_neg hsz];go_enter func128,ntmps128
  go_upto_region 3 with fail
  refine bb _ HQ.out ?_;clear HQ;rintro q hq;obtain⟨c0,c1,c2,c3,c4,c5⟩:=aJ hq.c;obtain⟨o0,o1,_,_⟩:=av hq.o;obtain⟨r0,r1,f0,f1⟩:=av hq.r;have HH:=aa hq;clear hq;go_wp2_with fail
  refine cq (uh C1 _) ?_;go_wp2_with fail
  go_region
  all_goals
   go_wp2
   refine bodyPost_ret (v:=aQ 4 5 t) (by simp[aQ,results,results128,asAddr,ce (aM HH.out.r (5:Int) t)]) rfl ⟨rfl,(HH.out.fin _ _).drew⟩
theorem FP(m a g:Nat)(p c d:Bool)(t:ByteArray)(w:World):Calls prog 128 #[cN m a g p c d,.agg #[(7:Int),t]] w fun e w'=>e=.returned (aQ (one m a g p c d ⟨7,t⟩).1 7 (one m a g p c d ⟨7,t⟩).2.data)/\Below w w w':=by
 obtain⟨q0,q1,q2,hb0⟩:=d_ w (.cells #[m,a,g,p,c,d] 24) (.cells #[(7:Int),t] 105) (.cells #[(0:Int),.string ⟨#[]⟩] 105);have HQ:=aa (OnS.mk q0 q1 q2 hb0);have hne1:¬(w.heap.size=w.heap.size+1+1):=by omega
 have hne2:¬(w.heap.size+1+1=w.heap.size):=by omega
 clear q0 q1 q2 hb0;by_cases hs:t.size=0
 .have hte:t=⟨#[]⟩:=by
   apply ByteArray.ext
   exact Array.eq_empty_of_size_eq_zero hs
  subst hte;have HR:Hid (aQ (one m a g p c d ⟨7,⟨#[]⟩⟩).1 7 (one m a g p c d ⟨7,⟨#[]⟩⟩).2.data=aQ (gc p 4) 7 ⟨#[]⟩):=aa (by
   rw[show one m a g p c d ⟨7,⟨#[]⟩⟩=(gc p 4,⟨7,if gc p 4==3 then⟨#[]⟩else⟨#[]⟩⟩)from if_pos rfl];dsimp only;cases p<;>rfl)
  rw[uh HR];clear HR;cases p
  .go_enter func128,ntmps128
   go_upto_region 3 with fail
   refine bb _ HQ.out ?_;clear HQ;rintro q hq;obtain⟨c0,c1,c2,c3,c4,c5⟩:=aJ hq.c;obtain⟨o0,o1,_,_⟩:=av hq.o;obtain⟨r0,r1,f0,f1⟩:=av hq.r;have HH:=aa hq;clear hq;go_wp2_with fail
   go_region
   all_goals
    go_wp2
    refine bodyPost_ret (v:=aQ 4 7 ⟨#[]⟩) (by simp[aQ,results,results128,asAddr,ce (aM HH.out.r (7:Int) (.string ⟨#[]⟩))]) rfl ⟨rfl,(HH.out.fin _ _).drew⟩
  .go_enter func128,ntmps128
   go_upto_region 3 with fail
   refine bb _ HQ.out ?_;clear HQ;rintro q hq;obtain⟨c0,c1,c2,c3,c4,c5⟩:=aJ hq.c;obtain⟨o0,o1,_,_⟩:=av hq.o;obtain⟨r0,r1,f0,f1⟩:=av hq.r;have HH:=aa hq;clear hq;go_wp2_with fail
   go_region
   all_goals
    go_wp2
    refine bodyPost_ret (v:=aQ 2 7 ⟨#[]⟩) (by simp[aQ,results,results128,asAddr,ce (aM HH.out.r (7:Int) (.string ⟨#[]⟩))]) rfl ⟨rfl,(HH.out.fin _ _).drew⟩
 .have hsz:¬(bN 7=some t.size):=fun e=>hs (Option.some.inj e).symm
  rw[show one m a g p c d ⟨7,t⟩=(4,⟨7,t⟩)from if_neg hsz];have hemp:t.toList.isEmpty=false:=by
   rw[ByteArray.toList_eq];cases h:t.data.toList with
   | nil=>exact absurd (by rw[<- bC,h];rfl) hs
   | cons x l=>rfl
  cases p
  .go_enter func128,ntmps128
   go_upto_region 3 with fail
   refine bb _ HQ.out ?_;clear HQ;rintro q hq;obtain⟨c0,c1,c2,c3,c4,c5⟩:=aJ hq.c;obtain⟨o0,o1,_,_⟩:=av hq.o;obtain⟨r0,r1,f0,f1⟩:=av hq.r;have HH:=aa hq;clear hq;go_wp2_with fail
   go_region
   all_goals
    go_wp2
    refine bodyPost_ret (v:=aQ 4 7 t) (by simp[aQ,results,results128,asAddr,ce (aM HH.out.r (7:Int) t)]) rfl ⟨rfl,(HH.out.fin _ _).drew⟩
  .go_enter func128,ntmps128
   go_upto_region 3 with fail
   refine bb _ HQ.out ?_;clear HQ;rintro q hq;obtain⟨c0,c1,c2,c3,c4,c5⟩:=aJ hq.c;obtain⟨o0,o1,_,_⟩:=av hq.o;obtain⟨r0,r1,f0,f1⟩:=av hq.r;have HH:=aa hq;clear hq;go_wp2_with fail
   go_region
   all_goals
    go_wp2
    refine bodyPost_ret (v:=aQ 4 7 t) (by simp[aQ,results,results128,asAddr,ce (aM HH.out.r (7:Int) t)]) rfl ⟨rfl,(HH.out.fin _ _).drew⟩
theorem FQ(m a g:Nat)(p c d:Bool)(t:ByteArray)(w:World):Calls prog 128 #[cN m a g p c d,.agg #[(8:Int),t]] w fun e w'=>e=.returned (aQ (one m a g p c d ⟨8,t⟩).1 8 (one m a g p c d ⟨8,t⟩).2.data)/\Below w w w':=by
 obtain⟨q0,q1,q2,hb0⟩:=d_ w (.cells #[m,a,g,p,c,d] 24) (.cells #[(8:Int),t] 105) (.cells #[(0:Int),.string ⟨#[]⟩] 105);have HQ:=aa (OnS.mk q0 q1 q2 hb0);have hne1:¬(w.heap.size=w.heap.size+1+1):=by omega
 have hne2:¬(w.heap.size+1+1=w.heap.size):=by omega
 clear q0 q1 q2 hb0;by_cases hs:t.size=0
 .have hte:t=⟨#[]⟩:=by
   apply ByteArray.ext
   exact Array.eq_empty_of_size_eq_zero hs
  subst hte;have HR:Hid (aQ (one m a g p c d ⟨8,⟨#[]⟩⟩).1 8 (one m a g p c d ⟨8,⟨#[]⟩⟩).2.data=aQ (gc c 4) 8 ⟨#[]⟩):=aa (by
   rw[show one m a g p c d ⟨8,⟨#[]⟩⟩=(gc c 4,⟨8,if gc c 4==3 then⟨#[]⟩else⟨#[]⟩⟩)from if_pos rfl];dsimp only;cases c<;>rfl)
  rw[uh HR];clear HR;cases c
  .go_enter func128,ntmps128
   go_upto_region 3 with fail
   refine bb _ HQ.out ?_;clear HQ;rintro q hq;obtain⟨c0,c1,c2,c3,c4,c5⟩:=aJ hq.c;obtain⟨o0,o1,_,_⟩:=av hq.o;obtain⟨r0,r1,f0,f1⟩:=av hq.r;have HH:=aa hq;clear hq;go_wp2_with fail
   go_region
   all_goals
    go_wp2
    refine bodyPost_ret (v:=aQ 4 8 ⟨#[]⟩) (by simp[aQ,results,results128,asAddr,ce (aM HH.out.r (8:Int) (.string ⟨#[]⟩))]) rfl ⟨rfl,(HH.out.fin _ _).drew⟩
  .go_enter func128,ntmps128
   go_upto_region 3 with fail
   refine bb _ HQ.out ?_;clear HQ;rintro q hq;obtain⟨c0,c1,c2,c3,c4,c5⟩:=aJ hq.c;obtain⟨o0,o1,_,_⟩:=av hq.o;obtain⟨r0,r1,f0,f1⟩:=av hq.r;have HH:=aa hq;clear hq;go_wp2_with fail
   go_region
   all_goals
    go_wp2
    refine bodyPost_ret (v:=aQ 2 8 ⟨#[]⟩) (by simp[aQ,results,results128,asAddr,ce (aM HH.out.r (8:Int) (.string ⟨#[]⟩))]) rfl ⟨rfl,(HH.out.fin _ _).drew⟩
 .have hsz:¬(bN 8=some t.size):=fun e=>hs (Option.some.inj e).symm
  rw[show one m a g p c d ⟨8,t⟩=(4,⟨8,t⟩)from if_neg hsz];have hemp:t.toList.isEmpty=false:=by
   rw[ByteArray.toList_eq];cases h:t.data.toList with
   | nil=>exact absurd (by rw[<- bC,h];rfl) hs
   | cons x l=>rfl
  cases c
  .go_enter func128,ntmps128
   go_upto_region 3 with fail
   refine bb _ HQ.out ?_;clear HQ;rintro q hq;obtain⟨c0,c1,c2,c3,c4,c5⟩:=aJ hq.c;obtain⟨o0,o1,_,_⟩:=av hq.o;obtain⟨r0,r1,f0,f1⟩:=av hq.r;have HH:=aa hq;clear hq;go_wp2_with fail
   go_region
   all_goals
    go_wp2
    refine bodyPost_ret (v:=aQ 4 8 t) (by simp[aQ,results,results128,asAddr,ce (aM HH.out.r (8:Int) t)]) rfl ⟨rfl,(HH.out.fin _ _).drew⟩
  .go_enter func128,ntmps128
   go_upto_region 3 with fail
   refine bb _ HQ.out ?_;clear HQ;rintro q hq;obtain⟨c0,c1,c2,c3,c4,c5⟩:=aJ hq.c;obtain⟨o0,o1,_,_⟩:=av hq.o;obtain⟨r0,r1,f0,f1⟩:=av hq.r;have HH:=aa hq;clear hq;go_wp2_with fail
   go_region
   all_goals
    go_wp2
    refine bodyPost_ret (v:=aQ 4 8 t) (by simp[aQ,results,results128,asAddr,ce (aM HH.out.r (8:Int) t)]) rfl ⟨rfl,(HH.out.fin _ _).drew⟩
theorem xn(m a g:Nat)(p c d:Bool)(t:ByteArray)(w:World)(ht:t.size<=20):Calls prog 128 #[cN m a g p c d,.agg #[(9:Int),t]] w fun e w'=>e=.returned (aQ (one m a g p c d ⟨9,t⟩).1 9 (one m a g p c d ⟨9,t⟩).2.data)/\Below w w w':=by
 obtain⟨q0,q1,q2,hb0⟩:=d_ w (.cells #[m,a,g,p,c,d] 24) (.cells #[(9:Int),t] 105) (.cells #[(0:Int),.string ⟨#[]⟩] 105);have HQ:=aa (OnS.mk q0 q1 q2 hb0);have hne1:¬(w.heap.size=w.heap.size+1+1):=by omega
 have hne2:¬(w.heap.size+1+1=w.heap.size):=by omega
 clear q0 q1 q2 hb0;by_cases hs:t.size=1
 .have hsz:bN 9=some t.size:=by rw[hs];rfl
  have C1:=aa fun v=>dX t 1 v (by decide) hs
  have HO:Hid (one m a g p c d ⟨9,t⟩=(gc ((da t.data.toList:Int)==2||((da t.data.toList:Int)==4&&d)) 3,⟨9,if gc ((da t.data.toList:Int)==2||((da t.data.toList:Int)==4&&d)) 3==3 then fu 2 else t⟩)):=aa (if_pos hsz);generalize da t.data.toList=n at*;rw[uh HO];clear HO hsz;cases hq2:((n:Int)==2)
  .have hb2:((n:Int) != 2)=true:=by simp only[bne,hq2];rfl
   cases hq4:((n:Int)==4)
   .have HR:Hid (aQ (gc (false||(false&&d)) 3) 9 (if gc (false||(false&&d)) 3==3 then fu 2 else t)=aQ 3 9 (fu 2)):=aa rfl;dsimp only;rw[uh HR];clear HR;go_enter func128,ntmps128
    go_upto_region 3 with fail
    refine bb _ HQ.out ?_;clear HQ;rintro q hq;obtain⟨c0,c1,c2,c3,c4,c5⟩:=aJ hq.c;obtain⟨o0,o1,_,_⟩:=av hq.o;obtain⟨r0,r1,f0,f1⟩:=av hq.r;have HH:=aa hq;clear hq;go_wp2_with fail
    refine cq (uh C1 _) ?_;go_wp2_with fail
    go_region
    all_goals
     go_wp2
     refine bodyPost_ret (v:=aQ 3 9 (fu 2)) (by simp[aQ,results,results128,asAddr,ce (aM HH.out.r (9:Int) (.string ⟨#[2]⟩)),fu,strOfNums]) rfl ⟨rfl,(HH.out.fin _ _).drew⟩
   .cases d
    .have HR:Hid (aQ (gc (false||(true&&false)) 3) 9 (if gc (false||(true&&false)) 3==3 then fu 2 else t)=aQ 3 9 (fu 2)):=aa rfl;dsimp only;rw[uh HR];clear HR;go_enter func128,ntmps128
     go_upto_region 3 with fail
     refine bb _ HQ.out ?_;clear HQ;rintro q hq;obtain⟨c0,c1,c2,c3,c4,c5⟩:=aJ hq.c;obtain⟨o0,o1,_,_⟩:=av hq.o;obtain⟨r0,r1,f0,f1⟩:=av hq.r;have HH:=aa hq;clear hq;go_wp2_with fail
     refine cq (uh C1 _) ?_;go_wp2_with fail
     go_region
     all_goals
      go_wp2
      refine bodyPost_ret (v:=aQ 3 9 (fu 2)) (by simp[aQ,results,results128,asAddr,ce (aM HH.out.r (9:Int) (.string ⟨#[2]⟩)),fu,strOfNums]) rfl ⟨rfl,(HH.out.fin _ _).drew⟩
    .have HR:Hid (aQ (gc (false||(true&&true)) 3) 9 (if gc (false||(true&&true)) 3==3 then fu 2 else t)=aQ 2 9 t):=aa rfl;dsimp only;rw[uh HR];clear HR;go_enter func128,ntmps128
     go_upto_region 3 with fail
     refine bb _ HQ.out ?_;clear HQ;rintro q hq;obtain⟨c0,c1,c2,c3,c4,c5⟩:=aJ hq.c;obtain⟨o0,o1,_,_⟩:=av hq.o;obtain⟨r0,r1,f0,f1⟩:=av hq.r;have HH:=aa hq;clear hq;go_wp2_with fail
     refine cq (uh C1 _) ?_;go_wp2_with fail
     go_region
     all_goals
      go_wp2
      refine bodyPost_ret (v:=aQ 2 9 t) (by simp[aQ,results,results128,asAddr,ce (aM HH.out.r (9:Int) t)]) rfl ⟨rfl,(HH.out.fin _ _).drew⟩
  .have hb2:((n:Int) != 2)=false:=by simp only[bne,hq2];rfl
   have HR:Hid (aQ (gc (true||(((n:Int)==4)&&d)) 3) 9 (if gc (true||(((n:Int)==4)&&d)) 3==3 then fu 2 else t)=aQ 2 9 t):=aa rfl;dsimp only;rw[uh HR];clear HR;go_enter func128,ntmps128
   go_upto_region 3 with fail
   refine bb _ HQ.out ?_;clear HQ;rintro q hq;obtain⟨c0,c1,c2,c3,c4,c5⟩:=aJ hq.c;obtain⟨o0,o1,_,_⟩:=av hq.o;obtain⟨r0,r1,f0,f1⟩:=av hq.r;have HH:=aa hq;clear hq;go_wp2_with fail
   refine cq (uh C1 _) ?_;go_wp2_with fail
   go_region
   all_goals
    go_wp2
    refine bodyPost_ret (v:=aQ 2 9 t) (by simp[aQ,results,results128,asAddr,ce (aM HH.out.r (9:Int) t)]) rfl ⟨rfl,(HH.out.fin _ _).drew⟩
 .have hsz:¬(bN 9=some t.size):=fun e=>hs (Option.some.inj e).symm
  have C1:=aa fun v=>eN t 1 v ht hs
  rw[show one m a g p c d ⟨9,t⟩=(4,⟨9,t⟩)from if_neg hsz];go_enter func128,ntmps128
  go_upto_region 3 with fail
  refine bb _ HQ.out ?_;clear HQ;rintro q hq;obtain⟨c0,c1,c2,c3,c4,c5⟩:=aJ hq.c;obtain⟨o0,o1,_,_⟩:=av hq.o;obtain⟨r0,r1,f0,f1⟩:=av hq.r;have HH:=aa hq;clear hq;go_wp2_with fail
  refine cq (uh C1 _) ?_;go_wp2_with fail
  go_region
  all_goals
   go_wp2
   refine bodyPost_ret (v:=aQ 4 9 t) (by simp[aQ,results,results128,asAddr,ce (aM HH.out.r (9:Int) t)]) rfl ⟨rfl,(HH.out.fin _ _).drew⟩
theorem xo(m a g:Nat)(p c d:Bool)(k:Int)(t:ByteArray)(w:World)(h1:k≠1)(h2:k≠2)(h5:k≠5)(h7:k≠7)(h8:k≠8)(h9:k≠9):Calls prog 128 #[cN m a g p c d,.agg #[k,t]] w fun e w'=>e=.returned (aQ (one m a g p c d ⟨k,t⟩).1 k (one m a g p c d ⟨k,t⟩).2.data)/\Below w w w':=by
 obtain⟨q0,q1,q2,hb0⟩:=d_ w (.cells #[m,a,g,p,c,d] 24) (.cells #[k,t] 105) (.cells #[(0:Int),.string ⟨#[]⟩] 105);have HQ:=aa (OnS.mk q0 q1 q2 hb0);have hsz:¬(bN k=some t.size):=by simp[bN,h1,h2,h5,h7,h8,h9]
 rw[show one m a g p c d ⟨k,t⟩=(4,⟨k,t⟩)from if_neg hsz];have e1:(k==1)=false:=zL h1;have e2:(k==2)=false:=zL h2;have e5:(k==5)=false:=zL h5;have e7:(k==7)=false:=zL h7;have e8:(k==8)=false:=zL h8;have e9:(k==9)=false:=zL h9;clear q0 q1 q2 hb0 h1 h2 h5 h7 h8 h9;go_enter func128,ntmps128
 go_upto_region 3 with fail
 refine bb _ HQ.out ?_;clear HQ;rintro q hq;obtain⟨c0,c1,c2,c3,c4,c5⟩:=aJ hq.c;obtain⟨o0,o1,_,_⟩:=av hq.o;obtain⟨r0,r1,f0,f1⟩:=av hq.r;have HH:=aa hq;clear hq;go_wp2_with fail
 go_region
 all_goals
  go_wp2
  refine bodyPost_ret (v:=aQ 4 k t) (by simp[aQ,results,results128,asAddr,ce (aM HH.out.r k t)]) rfl ⟨rfl,(HH.out.fin _ _).drew⟩
theorem sJ(m a g:Nat)(p c d:Bool)(k:Int)(t:ByteArray)(w:World)(ha:a<4294967296)(hg:g<4294967296)(ht:t.size<=20):Calls prog 128 #[cN m a g p c d,.agg #[k,t]] w fun e w'=>e=.returned (aQ (one m a g p c d ⟨k,t⟩).1 k (one m a g p c d ⟨k,t⟩).2.data)/\Below w w w':=by
 by_cases h1:k=1
 .subst h1;exact xi m a g p c d t w ht
 by_cases h2:k=2
 .subst h2;exact xj m a g p c d t w ht ha
 by_cases h5:k=5
 .subst h5;exact xk m a g p c d t w ht hg
 by_cases h7:k=7
 .subst h7;exact FP m a g p c d t w
 by_cases h8:k=8
 .subst h8;exact FQ m a g p c d t w
 by_cases h9:k=9
 .subst h9;exact xn m a g p c d t w ht
 .exact xo m a g p c d k t w h1 h2 h5 h7 h8 h9
end Go.Proofs.YtjdgiimfpkideaaGreatDoor
