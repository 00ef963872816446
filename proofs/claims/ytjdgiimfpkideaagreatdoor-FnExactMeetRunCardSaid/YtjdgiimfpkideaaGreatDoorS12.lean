/- AskL CfW -/
import Derived.Test.YtjdgiimfpkideaaGreatDoorS07
set_option maxHeartbeats 8000000
set_option maxRecDepth 100000
namespace Go.Proofs.YtjdgiimfpkideaaGreatDoor
open Go.RowKit Go.Proofs.Tryz
def km (L:List Op.Opt) (base:Nat) (w0:World) (v:Value) (wx:World):Prop :=
 ∃ ad cp,v=.slice ad L.length cp∧wx.ownsRow base 105 2 (.slice ad L.length cp) L.length (aj L)∧Below base w0 wx
theorem wy (m a g:Nat) (p c d:Bool):bp m a g p c d 1=bp m a g p c d 0 ++ c_ ((m:Int) != 300) 1 (ji m):=by simp [bp,eZ]
theorem wz (m a g:Nat) (p c d:Bool):bp m a g p c d 2=bp m a g p c d 1 ++ c_ ((a:Int) != 4294967295) 2 (cK a):=by simp [bp,eZ]
theorem wA (m a g:Nat) (p c d:Bool):bp m a g p c d 3=bp m a g p c d 2 ++ c_ ((g:Int) != 0) 5 (cK g):=by simp [bp,eZ]
theorem wB (m a g:Nat) (p c d:Bool):bp m a g p c d 4=bp m a g p c d 3 ++ c_ (p) 7 (⟨#[]⟩):=by simp [bp,eZ]
theorem wC (m a g:Nat) (p c d:Bool):bp m a g p c d 5=bp m a g p c d 4 ++ c_ (c) 8 (⟨#[]⟩):=by simp [bp,eZ]
theorem wD (m a g:Nat) (p c d:Bool):bp m a g p c d 6=bp m a g p c d 5 ++ c_ (d) 9 (fu 4):=by simp [bp,eZ]
theorem sD (m a g:Nat) (p c d:Bool) (w:World) :
  Calls prog 99 #[cN m a g p c d] w fun e w'=>∃ v,e=.returned v∧km (bp m a g p c d 6) w.heap.size w v w':=by
 have HC0:Hid ((w.alloc (.cells #[.int .i64 m,.int .i64 a,.int .i64 g,.bool p,.bool c,.bool d] 24)).heap[w.heap.size]?=some (.cells #[.int .i64 m,.int .i64 a,.int .i64 g,.bool p,.bool c,.bool d] 24)):=aa (heap_alloc_last w _);have hB0:Below w.heap.size w (w.alloc (.cells #[.int .i64 m,.int .i64 a,.int .i64 g,.bool p,.bool c,.bool d] 24)):=(zC _ _).alloc (zD _) _;have HB0:=aa hB0;have hs0:(w.alloc (.cells #[.int .i64 m,.int .i64 a,.int .i64 g,.bool p,.bool c,.bool d] 24)).heap.size=w.heap.size+1:=by simp
 have HS0:=aa hs0;clear hB0 hs0;go_enter func99,ntmps99
 go_upto_region 2 with fail
 have hA0:km (bp m a g p c d 0) (w.heap.size+1) (w.alloc (.cells #[.int .i64 m,.int .i64 a,.int .i64 g,.bool p,.bool c,.bool d] 24)) (.slice (some ⟨w.heap.size+1,0,none⟩) 0 0) ((w.alloc (.cells #[.int .i64 m,.int .i64 a,.int .i64 g,.bool p,.bool c,.bool d] 24)).alloc (.cells #[] 105)):=by
  refine ⟨_,_,rfl,?_,(zC _ _).alloc (by rw [uh HS0];exact zD _) _⟩;have:=World.ownsRow_lit (w.alloc (.cells #[.int .i64 m,.int .i64 a,.int .i64 g,.bool p,.bool c,.bool d] 24)) (base:=w.heap.size+1) (e:=105) (size:=2) #[] 0 (by rw [uh HS0];exact zD _) (Nat.zero_le _) rfl
  rw [uh HS0] at this;exact this
 refine ab (fun q=>km (bp m a g p c d 0) (w.heap.size+1) (w.alloc (.cells #[.int .i64 m,.int .i64 a,.int .i64 g,.bool p,.bool c,.bool d] 24)) (.slice (some ⟨w.heap.size+1,0,none⟩) 0 0) q) hA0 ?_;clear hA0;rintro q0 hA;generalize (w.alloc (.cells #[.int .i64 m,.int .i64 a,.int .i64 g,.bool p,.bool c,.bool d] 24))=W0 at *;obtain ⟨ad0,cp0,hv0,ho,hb⟩:=hA;have HO:=aa ho;have HB:=aa hb;rw [hv0];clear ho hb hv0;have hbs:=(uh HB).size;rw [uh HS0] at hbs;have hc:=((uh HB).block w.heap.size (Nat.lt_succ_self _)).trans (uh HC0);obtain ⟨c0,c1,c2,c3,c4,c5⟩:=aJ hc;have hln:=dp m a g p c d 0;clear hc;go_upto_if 7 with fail
 have HSL:=aa (wy m a g p c d);generalize ((m:Int) != 300)=b at *;go_cut [3] (fun v wx=>km (bp m a g p c d 1) (w.heap.size+1) W0 v wx)
 case first =>
  generalize bp m a g p c d 0=L at *;generalize bp m a g p c d 1=L1 at *;have HLT:=aa (congrArg List.length (uh HSL));cases b
  ·rw [dG,List.append_nil] at HSL;clear HLT;go_wp2_with fail
   go_meet;rw [uh HSL];exact ⟨_,_,rfl,uh HO,uh HB⟩
  ·go_wp2_with fail
   refine (tD m _).mono ?_;rintro e w4 ⟨rfl,hb4⟩;have HO4:=aa (aY (uh HO) fun q _ hq=>hb4.block q hq);have HB4:=aa ((uh HB).trans (hb4.mono hbs));have hbs4:=zE hbs hb4.size;clear hb4 HO HB c0 c1 c2 c3 c4 c5;go_wp2_with (first | (at_builtin;refine cD rfl _ _ rfl (w.heap.size+1) (.slice ad0 L.length cp0) L L.length rfl rfl (uh HO4) 1 (ji m) rfl (by omega) hbs4 ?_;rintro v6 w6 ho6 hg6;obtain ⟨a6,c6,rfl⟩:=af ho6))
   have hb6:Below (w.heap.size+1) W0 w6:=((uh HB4).alloc hbs4 _).grown hg6 (by simp;omega) (fun q hq=>(World.ownsRow.lt (uh HO4) q hq).1);go_meet;have hl1:L.length+1=L1.length:=by rw [uh HLT,bD,List.length_append];rfl
   refine ⟨a6,c6,by rw [← hl1],?_,hb6⟩;rw [← hl1,uh HSL,bD];exact ho6
 case rest =>
  obtain ⟨ad1,cp1,hu,ho,hb⟩:=hcut;subst hu;clear HO HB hbs c0 c1 c2 c3 c4 c5 hln HSL;have HO:=aa ho;have HB:=aa hb;clear ho hb;have hbs:=(uh HB).size;rw [uh HS0] at hbs;have hc:=((uh HB).block w.heap.size (Nat.lt_succ_self _)).trans (uh HC0);obtain ⟨c0,c1,c2,c3,c4,c5⟩:=aJ hc;have hln:=dp m a g p c d 1;clear hc;go_upto_if 17 with fail
  have HSL:=aa (wz m a g p c d);generalize ((a:Int) != 4294967295)=b at *;go_cut [3] (fun v wx=>km (bp m a g p c d 2) (w.heap.size+1) W0 v wx)
  case first =>
   generalize bp m a g p c d 1=L at *;generalize bp m a g p c d 2=L1 at *;have HLT:=aa (congrArg List.length (uh HSL));cases b
   ·rw [dG,List.append_nil] at HSL;clear HLT;go_wp2_with fail
    go_meet;rw [uh HSL];exact ⟨_,_,rfl,uh HO,uh HB⟩
   ·go_wp2_with fail
    refine (jR a _).mono ?_;rintro e w4 ⟨rfl,hb4⟩;have HO4:=aa (aY (uh HO) fun q _ hq=>hb4.block q hq);have HB4:=aa ((uh HB).trans (hb4.mono hbs));have hbs4:=zE hbs hb4.size;clear hb4 HO HB c0 c1 c2 c3 c4 c5;go_wp2_with (first | (at_builtin;refine cD rfl _ _ rfl (w.heap.size+1) (.slice ad1 L.length cp1) L L.length rfl rfl (uh HO4) 2 (cK a) rfl (by omega) hbs4 ?_;rintro v6 w6 ho6 hg6;obtain ⟨a6,c6,rfl⟩:=af ho6))
    have hb6:Below (w.heap.size+1) W0 w6:=((uh HB4).alloc hbs4 _).grown hg6 (by simp;omega) (fun q hq=>(World.ownsRow.lt (uh HO4) q hq).1);go_meet;have hl1:L.length+1=L1.length:=by rw [uh HLT,bD,List.length_append];rfl
    refine ⟨a6,c6,by rw [← hl1],?_,hb6⟩;rw [← hl1,uh HSL,bD];exact ho6
  case rest =>
   obtain ⟨ad2,cp2,hu,ho,hb⟩:=hcut;subst hu;clear HO HB hbs c0 c1 c2 c3 c4 c5 hln HSL;have HO:=aa ho;have HB:=aa hb;clear ho hb;have hbs:=(uh HB).size;rw [uh HS0] at hbs;have hc:=((uh HB).block w.heap.size (Nat.lt_succ_self _)).trans (uh HC0);obtain ⟨c0,c1,c2,c3,c4,c5⟩:=aJ hc;have hln:=dp m a g p c d 2;clear hc;go_upto_if 27 with fail
   have HSL:=aa (wA m a g p c d);generalize ((g:Int) != 0)=b at *;go_cut [3] (fun v wx=>km (bp m a g p c d 3) (w.heap.size+1) W0 v wx)
   case first =>
    generalize bp m a g p c d 2=L at *;generalize bp m a g p c d 3=L1 at *;have HLT:=aa (congrArg List.length (uh HSL));cases b
    ·rw [dG,List.append_nil] at HSL;clear HLT;go_wp2_with fail
     go_meet;rw [uh HSL];exact ⟨_,_,rfl,uh HO,uh HB⟩
    ·go_wp2_with fail
     refine (jR g _).mono ?_;rintro e w4 ⟨rfl,hb4⟩;have HO4:=aa (aY (uh HO) fun q _ hq=>hb4.block q hq);have HB4:=aa ((uh HB).trans (hb4.mono hbs));have hbs4:=zE hbs hb4.size;clear hb4 HO HB c0 c1 c2 c3 c4 c5;go_wp2_with (first | (at_builtin;refine cD rfl _ _ rfl (w.heap.size+1) (.slice ad2 L.length cp2) L L.length rfl rfl (uh HO4) 5 (cK g) rfl (by omega) hbs4 ?_;rintro v6 w6 ho6 hg6;obtain ⟨a6,c6,rfl⟩:=af ho6))
     have hb6:Below (w.heap.size+1) W0 w6:=((uh HB4).alloc hbs4 _).grown hg6 (by simp;omega) (fun q hq=>(World.ownsRow.lt (uh HO4) q hq).1);go_meet;have hl1:L.length+1=L1.length:=by rw [uh HLT,bD,List.length_append];rfl
     refine ⟨a6,c6,by rw [← hl1],?_,hb6⟩;rw [← hl1,uh HSL,bD];exact ho6
   case rest =>
    obtain ⟨ad3,cp3,hu,ho,hb⟩:=hcut;subst hu;clear HO HB hbs c0 c1 c2 c3 c4 c5 hln HSL;have HO:=aa ho;have HB:=aa hb;clear ho hb;have hbs:=(uh HB).size;rw [uh HS0] at hbs;have hc:=((uh HB).block w.heap.size (Nat.lt_succ_self _)).trans (uh HC0);obtain ⟨c0,c1,c2,c3,c4,c5⟩:=aJ hc;have hln:=dp m a g p c d 3;clear hc;go_upto_if 36 with fail
    have HSL:=aa (wB m a g p c d);go_cut [3] (fun v wx=>km (bp m a g p c d 4) (w.heap.size+1) W0 v wx)
    case first =>
     generalize bp m a g p c d 3=L at *;generalize bp m a g p c d 4=L1 at *;have HLT:=aa (congrArg List.length (uh HSL));cases p
     ·rw [dG,List.append_nil] at HSL;clear HLT;go_wp2_with fail
      go_meet;rw [uh HSL];exact ⟨_,_,rfl,uh HO,uh HB⟩
     ·clear c0 c1 c2 c3 c4 c5;go_wp2_with (first | (at_builtin;refine cD rfl _ _ rfl (w.heap.size+1) (.slice ad3 L.length cp3) L L.length rfl rfl (uh HO) 7 (⟨#[]⟩) rfl (by omega) hbs ?_;rintro v6 w6 ho6 hg6;obtain ⟨a6,c6,rfl⟩:=af ho6))
      have hb6:Below (w.heap.size+1) W0 w6:=((uh HB).alloc hbs _).grown hg6 (by simp;omega) (fun q hq=>(World.ownsRow.lt (uh HO) q hq).1);go_meet;have hl1:L.length+1=L1.length:=by rw [uh HLT,bD,List.length_append];rfl
      refine ⟨a6,c6,by rw [← hl1],?_,hb6⟩;rw [← hl1,uh HSL,bD];exact ho6
    case rest =>
     obtain ⟨ad4,cp4,hu,ho,hb⟩:=hcut;subst hu;clear HO HB hbs c0 c1 c2 c3 c4 c5 hln HSL;have HO:=aa ho;have HB:=aa hb;clear ho hb;have hbs:=(uh HB).size;rw [uh HS0] at hbs;have hc:=((uh HB).block w.heap.size (Nat.lt_succ_self _)).trans (uh HC0);obtain ⟨c0,c1,c2,c3,c4,c5⟩:=aJ hc;have hln:=dp m a g p c d 4;clear hc;go_upto_if 42 with fail
     have HSL:=aa (wC m a g p c d);go_cut [3] (fun v wx=>km (bp m a g p c d 5) (w.heap.size+1) W0 v wx)
     case first =>
      generalize bp m a g p c d 4=L at *;generalize bp m a g p c d 5=L1 at *;have HLT:=aa (congrArg List.length (uh HSL));cases c
      ·rw [dG,List.append_nil] at HSL;clear HLT;go_wp2_with fail
       go_meet;rw [uh HSL];exact ⟨_,_,rfl,uh HO,uh HB⟩
      ·clear c0 c1 c2 c3 c4 c5;go_wp2_with (first | (at_builtin;refine cD rfl _ _ rfl (w.heap.size+1) (.slice ad4 L.length cp4) L L.length rfl rfl (uh HO) 8 (⟨#[]⟩) rfl (by omega) hbs ?_;rintro v6 w6 ho6 hg6;obtain ⟨a6,c6,rfl⟩:=af ho6))
       have hb6:Below (w.heap.size+1) W0 w6:=((uh HB).alloc hbs _).grown hg6 (by simp;omega) (fun q hq=>(World.ownsRow.lt (uh HO) q hq).1);go_meet;have hl1:L.length+1=L1.length:=by rw [uh HLT,bD,List.length_append];rfl
       refine ⟨a6,c6,by rw [← hl1],?_,hb6⟩;rw [← hl1,uh HSL,bD];exact ho6
     case rest =>
      obtain ⟨ad5,cp5,hu,ho,hb⟩:=hcut;subst hu;clear HO HB hbs c0 c1 c2 c3 c4 c5 hln HSL;have HO:=aa ho;have HB:=aa hb;clear ho hb;have hbs:=(uh HB).size;rw [uh HS0] at hbs;have hc:=((uh HB).block w.heap.size (Nat.lt_succ_self _)).trans (uh HC0);obtain ⟨c0,c1,c2,c3,c4,c5⟩:=aJ hc;have hln:=dp m a g p c d 5;clear hc;go_upto_if 48 with fail
      have HSL:=aa (wD m a g p c d);go_cut [3] (fun v wx=>km (bp m a g p c d 6) (w.heap.size+1) W0 v wx)
      case first =>
       generalize bp m a g p c d 5=L at *;generalize bp m a g p c d 6=L1 at *;have HLT:=aa (congrArg List.length (uh HSL));cases d
       ·rw [dG,List.append_nil] at HSL;clear HLT;go_wp2_with fail
        go_meet;rw [uh HSL];exact ⟨_,_,rfl,uh HO,uh HB⟩
       ·clear c0 c1 c2 c3 c4 c5;go_wp2_with (first | (at_builtin;refine cD rfl _ _ rfl (w.heap.size+1) (.slice ad5 L.length cp5) L L.length rfl rfl (uh HO) 9 (fu 4) rfl (by omega) hbs ?_;rintro v6 w6 ho6 hg6;obtain ⟨a6,c6,rfl⟩:=af ho6))
        have hb6:Below (w.heap.size+1) W0 w6:=((uh HB).alloc hbs _).grown hg6 (by simp;omega) (fun q hq=>(World.ownsRow.lt (uh HO) q hq).1);go_meet;have hl1:L.length+1=L1.length:=by rw [uh HLT,bD,List.length_append];rfl
        refine ⟨a6,c6,by rw [← hl1],?_,hb6⟩;rw [← hl1,uh HSL,bD];exact ho6
      case rest =>
       obtain ⟨ad6,cp6,hu,ho,hb⟩:=hcut;subst hu;clear HO HB hbs c0 c1 c2 c3 c4 c5 hln HSL;have HO:=aa ho;have HB:=aa hb;clear ho hb;have hB:=(uh HB0).trans ((uh HB).mono (Nat.le_succ _));have ho:=dy (uh HO) (Nat.le_succ _);clear HO HB HB0 HS0 HC0;go_wp2_with fail
       go_ret
       exact ⟨_,rfl,_,_,rfl,ho,hB⟩
structure CfS (w:World) (M:Nat) (x:Cf) (q:World):Prop where
 x:q.heap[w.heap.size]?=some (.cells (dr x) 24)
 r:q.heap[w.heap.size+1]?=some (.cells #[.int .i64 0,.int .i64 0,.int .i64 0,.bool false,.bool false,.bool false] 24)
 m:q.heap[M]?=some (.map cI 6)
 b:Below w.heap.size w q
theorem CfS.step {w:World} {M:Nat} {x:Cf} {q q':World} (h:CfS w M x q) (hb:Below q.heap.size q q'):CfS w M x q' :=
 ⟨(hb.block _ (ge.1 h.x).1).trans h.x,(hb.block _ (ge.1 h.r).1).trans h.r,(hb.block _ (ge.1 h.m).1).trans h.m,h.b.trans (hb.mono h.b.size)⟩
theorem gq {W:World} {E g:Nat} (hg:g≠E) (x0 x1 x2 x3 x4 x5:Value):((((((W.setCell ⟨E,0,none⟩ x0).setCell ⟨E,1,none⟩ x1).setCell ⟨E,2,none⟩ x2).setCell ⟨E,3,none⟩ x3).setCell ⟨E,4,none⟩ x4).setCell ⟨E,5,none⟩ x5).heap[g]?=W.heap[g]?:=by
 rw [Below.heap_setCell _ _ _ _ hg,Below.heap_setCell _ _ _ _ hg,Below.heap_setCell _ _ _ _ hg,Below.heap_setCell _ _ _ _ hg,Below.heap_setCell _ _ _ _ hg,Below.heap_setCell _ _ _ _ hg]
theorem CfS.put {w:World} {M:Nat} {x:Cf} {q:World} (h:CfS w M x q) (h2:w.heap.size+1<M) (y:Cf) :
  CfS w M y ((((((q.setCell ⟨w.heap.size,0,none⟩ (.int .i64 y.m)).setCell ⟨w.heap.size,1,none⟩ (.int .i64 y.a)).setCell ⟨w.heap.size,2,none⟩ (.int .i64 y.g)).setCell ⟨w.heap.size,3,none⟩ (.bool y.p)).setCell ⟨w.heap.size,4,none⟩ (.bool y.c)).setCell ⟨w.heap.size,5,none⟩ (.bool y.d)) :=
 ⟨dP h.x _ _ _ _ _ _,(gq (by omega) _ _ _ _ _ _).trans h.r,(gq (by omega) _ _ _ _ _ _).trans h.m,cv h.b (zD _) _ _ _ _ _ _⟩
theorem eh {w:World} {B:Nat} {x0 x1 x2 x3 x4 x5:Value} {T:TypeId} (h:w.heap[B]?=some (.cells #[x0,x1,x2,x3,x4,x5] T)) :
  w.frozen? ⟨B,0,none⟩=false∧w.frozen? ⟨B,1,none⟩=false∧w.frozen? ⟨B,2,none⟩=false∧w.frozen? ⟨B,3,none⟩=false∧w.frozen? ⟨B,4,none⟩=false∧w.frozen? ⟨B,5,none⟩=false:=⟨aX h _,aX h _,aX h _,aX h _,aX h _,aX h _⟩
theorem lT (x:Cf) (v:Value) (F:List Op.Opt) (w:World) (hx:iv x=true) (hr:Op.right F=true) (h:HoldsO w v F) :
  Calls prog 140 #[.agg (dr x),v] w fun e w'=>e=.returned (.agg (dr (gI x F)))∧Below w.heap.size w w':=by
 have hFl:=Op.right_len hr;have C0:=aa fun W=>dm (x.m:Int) x.a x.g x.p x.c x.d W
 have C1:=aa fun W (hb:Below w.heap.size w W)=>cq v F W (by unfold maxLen;omega) (h.below hb rfl)
 rw [show aK (x.m:Int) x.a x.g=true from hx] at C0;rw [hr] at C1;have HFO:=aa (Op.right_all hr);have HAT:=aa fun i hi=>h.at i hi
 obtain ⟨ad,cp,rfl⟩:=h.form;obtain ⟨n,hn⟩:∃ n,F.length=n:=⟨_,rfl⟩;obtain ⟨_,hA,hR,hb⟩:=br w (.cells (dr x) 24) (.cells #[.int .i64 0,.int .i64 0,.int .i64 0,.bool false,.bool false,.bool false] 24);have H0:=aa (zA hA (zA hR hb));have d0:¬ ((400:Int)<(n:Int)):=by omega
 clear h hr hA hR hb;have HTL:Hid (F.take n=F):=aa (List.take_of_length_le (by omega));obtain ⟨R,hR⟩:∃ R,gI x F=R:=⟨_,rfl⟩;rw [hR];have HR:=aa hR;clear hR;have hx0:gI x (F.take 0)=x:=rfl;rw [hn] at C1 ⊢;go_enter func140,ntmps140
 go_wp2_with fail
 refine (uh C0 _).mono ?_;rintro e w1 ⟨rfl,hb1⟩;have hA1:=(hb1.block w.heap.size (by simp;omega)).trans (uh H0).1;have hR1:=(hb1.block (w.heap.size+1) (by simp)).trans (uh H0).2.1;have hB1:=(uh H0).2.2.trans (hb1.mono (uh H0).2.2.size);have H1:=aa (zA hA1 (zA hR1 hB1));clear hA1 hR1 hB1 hb1 H0 C0;go_wp2_with fail
 refine (uh C1 _ (uh H1).2.2).mono ?_;rintro e w2 ⟨rfl,hb2⟩;have hA2:=(hb2.block w.heap.size (ge.1 (uh H1).1).1).trans (uh H1).1;have hR2:=(hb2.block (w.heap.size+1) (ge.1 (uh H1).2.1).1).trans (uh H1).2.1;have hB2:=(uh H1).2.2.trans (hb2.mono (uh H1).2.2.size);have H2:=aa (zA hA2 (zA hR2 hB2));clear hA2 hR2 hB2 hb2 H1 C1;go_wp2_with fail
 refine (dF _).mono ?_;rintro e w3 ⟨rfl,hm3,hb3⟩;have hI:CfS w w2.heap.size (gI x (F.take 0)) w3:=by
  have hl1:=(ge.1 (uh H2).1).1;have hl2:=(ge.1 (uh H2).2.1).1;rw [hx0];exact ⟨(hb3.block _ hl1).trans (uh H2).1,(hb3.block _ hl2).trans (uh H2).2.1,hm3,(uh H2).2.2.trans (hb3.mono (uh H2).2.2.size)⟩
 have hM:w.heap.size+1<w2.heap.size:=(ge.1 (uh H2).2.1).1;have HI:=aa hI;clear hI hm3 hb3 H2 hx0 hx;go_wp2_with fail
 generalize w2.heap.size=M at *;go_loopw [26] (fun y wr=>∃ i:Nat,i≤n∧y=.int .i64 i∧CfS w M (gI x (F.take i)) wr) (fun y _=>n - (intOf y).toNat)
 case atStart=>exact ⟨0,Nat.zero_le _,rfl,uh HI⟩
 case round =>
  obtain ⟨i,hi,rfl,hS⟩:=hrel;clear HI;by_cases hlt:i<n
  ·have d1:(i:Int)<(n:Int):=by omega
   have d2:(0:Int)≤(i:Int):=by omega
   obtain ⟨g,⟨cp2,e2⟩,hgl,k0,k1⟩:=uh HAT i (by omega);cases e2;replace k0:=(hS.b.cell (p:=⟨g,i*2,none⟩) hgl).trans k0;replace k1:=(hS.b.cell (p:=⟨g,i*2+1,none⟩) hgl).trans k1;have HSN:=aa (lS x F i (by omega));have hok:=uh HFO _ (List.getElem_mem (show i<F.length by omega));generalize F[i]'(by omega)=o at *;obtain ⟨kd,dt⟩:=o;dsimp only at k0 k1;generalize gI x (F.take i)=y at *;have hds:dt.size≤20:=by unfold Op.ok at hok;have:=of_decide_eq_true hok;exact this.2.2
   have HS:=aa hS;clear hS HAT HFO hok;go_upto_region 9 with fail
   refine ab (fun q=>CfS w M y q∧q.heap[wr.heap.size]?=some (.cells #[.int .i64 kd,.string dt] 105))
    ⟨(uh HS).step ((zC _ _).alloc (zD _) _),zF wr _⟩ ?_
   rintro q1 ⟨hS1,hO1⟩;have hN1:M<wr.heap.size:=(ge.1 (uh HS).m).1;generalize wr.heap.size=N1 at *;have hl1:N1<q1.heap.size:=(ge.1 hO1).1;obtain ⟨c0,c1,_,_⟩:=av hO1;have HV1:=aa (zA hS1 hO1);clear hO1 HS k0 k1;rcases qy kd with ⟨s,f,f2,f3,f4,f5,j,hs,hJ⟩ | ⟨hs,hwo,hf⟩
   ·have hlk:=kY q1 M cI 6 j kd _ hS1.m hJ.fd;have hcf:=hJ.cf4;have HJ2:=aa fun v=>hJ.wo y v
    clear hS1 hJ;go_upto_region 10 with fail
    refine ab (fun q=>CfS w M y q∧q.heap[q1.heap.size]?=some (.cells #[.int .i64 s,cY f,cY f2,cY f3,cY f4,cY f5] 191))
     ⟨(uh HV1).1.step ((zC _ _).alloc (zD _) _),zF q1 _⟩ ?_
    rintro q4 ⟨hS4,hR4⟩;obtain ⟨_,_,_,_,r4,_⟩:=aJ hR4;obtain ⟨m0,m1,m2,m3,m4,m5⟩:=aJ hS4.x;have HV4:=aa hS4;clear hS4 hR4 HV1 c0 c1 hlk;go_wp2_with fail
    refine (uh HJ2 _).mono ?_;rintro e w6 ⟨rfl,hb6⟩;have h6:=(uh HV4).step hb6;clear m0 m1 m2 m3 m4 m5;obtain ⟨m0,m1,m2,m3,m4,m5⟩:=aJ h6.x;obtain ⟨f0',f1',f2',f3',f4',f5'⟩:=eh h6.x;have HL:=aa (h6.put hM (lQ kd y));clear h6 hb6 HV4;go_wp2_with fail
    go_roundw
    case rel=>exact ⟨i+1,by omega,by go_num,by rw [uh HSN];exact uh HL⟩
    case measure=>simp [intOf];omega
   ·have hlk:=kZ q1 M cI 6 kd hS1.m hf;clear hS1 hf;go_wp2_with fail
    go_roundw
    case rel=>exact ⟨i+1,by omega,by go_num,by rw [uh HSN,hwo];exact (uh HV1).1.step ((zC _ _).alloc (zD _) _)⟩
    case measure=>simp [intOf];omega
  ·have e:i=n:=by omega
   subst e;have d1:¬ ((i:Int)<(i:Int)):=by omega
   rw [uh HTL,uh HR] at hS;obtain ⟨m0,m1,m2,m3,m4,m5⟩:=aJ hS.x;obtain ⟨r0,r1,r2,r3,r4,r5⟩:=aJ hS.r;obtain ⟨f0,f1,f2,f3,f4,f5⟩:=eh hS.r;have HS:=aa hS;clear hS HAT HFO HTL HR;go_wp2
   exact bodyPost_ret (v:=.agg (dr R)) (by simp [results,results140,asAddr,jU (dP (uh HS).r (.int .i64 R.m) (.int .i64 R.a) (.int .i64 R.g) (.bool R.p) (.bool R.c) (.bool R.d))]) rfl ⟨rfl,cv (uh HS).b (by omega) _ _ _ _ _ _⟩
end Go.Proofs.YtjdgiimfpkideaaGreatDoor
