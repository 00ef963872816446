/- HrA HrC MtH -/
import Derived.Test.YtjdgiimfpkideaaGreatDoorS31
import Derived.Shelf.RegionOpen
import Derived.OwnWalkIn
import Derived.LoopNIn
import Derived.LoopIn
set_option maxHeartbeats 8000000
set_option maxRecDepth 100000
set_option linter.unusedSimpArgs false
namespace Go.Proofs.YtjdgiimfpkideaaGreatDoor
open Go.RowKit Go.Proofs.Tryz
theorem fc {t u:ByteArray} (h:t.toList=u.toList):t=u:=by
 rw [ByteArray.toList_eq,ByteArray.toList_eq] at h;exact ByteArray.ext (Array.ext' h)
theorem qz {w0 w1:World} {B n:Nat} {c:Cx} {s:St} {v1 v2 vs vt:Value} {q:World} (h:Lay 129 w0 w1 B c s v1 v2 vs vt q) (hf:Fit n c s) :
  Calls prog 122 #[.pointer (some ⟨B,0,none⟩)] q fun r q'=>Lay 129 w0 w1 B c s v1 v2 vs vt q'∧r=.returned (.tuple #[.int .i64 (if c.ci=s.e.id∧c.cd=co (Op.bytes s.F1) then 8 else 0),.int .i64 (if c.ci=s.e.id∧c.cd=co (Op.bytes s.F1) then 0 else 8)]):=by
 have hm:s.F1.length≤maxLen:=by have:=Op.right_len (aT hf.f1);unfold maxLen;omega
 have CB:Hid (∀ z,Lay 129 w0 w1 B c s v1 v2 vs vt z→Calls prog 131 #[v1] z fun e w'=>e=.returned (.string (rD s.F1))∧Below z.heap.size z w'):=aa fun z hz=>cP v1 s.F1 z hm (HoldsO.own hz.o1)
 have HE:Hid (∀ z,Lay 129 w0 w1 B c s v1 v2 vs vt z→z.cell? ⟨B,32,none⟩=some (.int .i64 c.ci)∧z.cell? ⟨B,15,none⟩=some (.int .i64 s.e.id)∧z.cell? ⟨B,33,none⟩=some (.string c.cd)∧z.cell? ⟨B,17,none⟩=some v1):=aa fun z h3=>zA (h3.cell (i:=32) rfl) (zA (h3.cell (i:=15) rfl) (zA (h3.cell (i:=33) rfl) (h3.cell (i:=17) rfl)))
 have ho:rD s.F1=co (Op.bytes s.F1):=by unfold rD Op.told;rw [if_pos (aT hf.f1)]
 rw [ho] at CB;have HL:=aa h;clear h hm hf ho;generalize co (Op.bytes s.F1)=u at *;generalize c.ci=x at *;generalize s.e.id=y at *;generalize c.cd=t at *;by_cases hi:x=y
 ·subst hi;by_cases hu:t=u
  ·subst hu;rw [if_pos ⟨rfl,rfl⟩,if_pos ⟨rfl,rfl⟩];go_enter func122,ntmps122
   go_upto_region 1 with fail
   have E1:=aa ((uh HL).step (zC _ _).drew);refine wp_region_held_drew (S:=fun y9=>y9.cell? ⟨B,32,none⟩=some (.int .i64 x)∧y9.cell? ⟨B,15,none⟩=some (.int .i64 x)∧y9.cell? ⟨B,33,none⟩=some (.string t)∧y9.cell? ⟨B,17,none⟩=some v1) (by kernel_rfl) (uh HE _ (uh E1)) (fun hHeld=>?_);generalize q.drew=yy at E1 hHeld ⊢;clear HL;refine tq 0 1 2 3 ?_;refine tq 4 5 6 7 ?_;refine tq 8 9 10 11 ?_;refine tq 12 13 14 15 ?_;refine tq 16 17 18 19 ?_;refine tt 20 21 ?_;refine r3 22 fun K hK=>?_
   go_simp;refine (uh CB _ (uh E1)).mono ?_;rintro e z3 ⟨rfl,hb3⟩;have E3:=aa ((uh E1).step hb3);clear hb3;go_wp2_with fail
   refine ro hK (uh HE _ (uh E3)) fun _=>?_
   clear hK K;refine tt 23 24 ?_;refine dn ?_ _;go_wp2
   refine bodyPost_ret (v:=.tuple #[.int .i64 8,.int .i64 0]) (by simp [results,results122,go_sem]) rfl ⟨uh E3,rfl⟩
  ·rw [if_neg fun h=>hu h.2,if_neg fun h=>hu h.2];have hu2:(t.toList != u.toList)=true:=by
    rw [bne_iff_ne];intro e;exact hu (fc e)
   have hu3:(t.toList == u.toList)=false:=by
    rw [beq_eq_false_iff_ne];intro e;exact hu (fc e)
   go_enter func122,ntmps122
   go_upto_region 1 with fail
   have E1:=aa ((uh HL).step (zC _ _).drew);refine wp_region_held_drew (S:=fun y9=>y9.cell? ⟨B,32,none⟩=some (.int .i64 x)∧y9.cell? ⟨B,15,none⟩=some (.int .i64 x)∧y9.cell? ⟨B,33,none⟩=some (.string t)∧y9.cell? ⟨B,17,none⟩=some v1) (by kernel_rfl) (uh HE _ (uh E1)) (fun hHeld=>?_);generalize q.drew=yy at E1 hHeld ⊢;clear HL;refine tq 0 1 2 3 ?_;refine tq 4 5 6 7 ?_;refine tq 8 9 10 11 ?_;refine tq 12 13 14 15 ?_;refine tq 16 17 18 19 ?_;refine tt 20 21 ?_;refine r3 22 fun K hK=>?_
   go_simp;refine (uh CB _ (uh E1)).mono ?_;rintro e z3 ⟨rfl,hb3⟩;have E3:=aa ((uh E1).step hb3);clear hb3;go_wp2_with fail
   refine ro hK (uh HE _ (uh E3)) fun _=>?_
   clear hK K;refine tt 23 24 ?_;refine dn ?_ _;go_wp2
   refine bodyPost_ret (v:=.tuple #[.int .i64 0,.int .i64 8]) (by simp [results,results122,go_sem]) rfl ⟨uh E3,rfl⟩
 ·rw [if_neg fun h=>hi h.1,if_neg fun h=>hi h.1];have hi2:(x != y)=true:=by simpa using hi
  have hi3:(x == y)=false:=by simpa using hi
  go_enter func122,ntmps122
  go_upto_region 1 with fail
  have E1:=aa ((uh HL).step (zC _ _).drew);refine wp_region_held_drew (S:=fun y9=>y9.cell? ⟨B,32,none⟩=some (.int .i64 x)∧y9.cell? ⟨B,15,none⟩=some (.int .i64 y)∧y9.cell? ⟨B,33,none⟩=some (.string t)∧y9.cell? ⟨B,17,none⟩=some v1) (by kernel_rfl) (uh HE _ (uh E1)) (fun hHeld=>?_);generalize q.drew=yy at E1 hHeld ⊢;clear HL;refine tq 0 1 2 3 ?_;refine tq 4 5 6 7 ?_;refine tq 8 9 10 11 ?_;refine t5 12 ?_;refine t5 13 ?_;refine t5 14 ?_;refine t5 15 ?_;refine t5 16 ?_;refine t5 17 ?_;refine t5 18 ?_;refine t5 19 ?_;refine t5 20 ?_;refine t5 21 ?_;refine t5 22 ?_;refine t5 23 ?_;refine t2 24 ?_;refine dn ?_ _;go_wp2
  refine bodyPost_ret (v:=.tuple #[.int .i64 0,.int .i64 8]) (by simp [results,results122,go_sem]) rfl ⟨uh E1,rfl⟩
theorem xF {w0 w1:World} {B:Nat} {c:Cx} {s:St} {v1 v2 vs vt:Value} {q:World} (h:Lay 129 w0 w1 B c s v1 v2 vs vt q) (hs:c.cd.size≤250) :
  Calls prog 124 #[.pointer (some ⟨B,0,none⟩)] q fun r q'=>q'=q∧r=.returned (.tuple #[.int .i64 (if c.cd.size=0 then 0 else if f_ c.cd=true then 14 else 13),.int .i64 (if c.cd.size=0 then 4 else 0)]):=by
 have k:=h.cell (i:=33) rfl;clear h;obtain ⟨t,ht⟩:∃ t,c.cd=t:=⟨_,rfl⟩;rw [ht] at hs ⊢;have c33:q.cell? ⟨B,33,none⟩=some (.string t):=ht ▸ k;clear k ht;obtain ⟨⟨l⟩⟩:=t;cases l with
 | nil =>
  go_enter func124,ntmps124
  go_wp2
  refine bodyPost_ret (v:=.tuple #[.int .i64 0,.int .i64 4]) (by simp [results,results124,go_sem]) rfl ⟨rfl,rfl⟩
 | cons b l =>
  have d0:(ByteArray.mk ⟨b :: l⟩).toList.isEmpty=false:=by rw [ByteArray.toList_eq];rfl
  have d1:¬ (ByteArray.mk ⟨b :: l⟩).size=0:=by show ¬ (l.length+1=0);omega
  have d2:f_ ⟨⟨b :: l⟩⟩=al 1 7 b.toNat:=by
   show decide (1≤b.toNat∧b.toNat≤7)=_
   unfold al;rw [Bool.eq_iff_iff];simp;omega
  rw [d2,if_neg d1,if_neg d1];clear d2;have wb:wrap64 (b.toNat:Int)=(b.toNat:Int):=by
   have:=b.toNat_lt
   unfold wrap64;omega
  have d3:0<(ByteArray.mk ⟨b :: l⟩).size:=by show 0<l.length+1;omega
  cases hb:al 1 7 (b.toNat:Int)
  ·have hb2:al 1 7 (wrap64 (((ByteArray.mk ⟨b :: l⟩)[0]'d3).toNat:Int))=false:=by show al 1 7 (wrap64 (b.toNat:Int))=false;rw [wb];exact hb
   go_enter func124,ntmps124
   go_wp2_with (first | (go_at_call 45;refine (cE _ _ _ _).mono ?_;rintro e wx ⟨rfl,hw⟩;replace hw:=hw.symm;subst hw;rw [hb2]))
   refine bodyPost_ret (v:=.tuple #[.int .i64 13,.int .i64 0]) (by simp [results,results124,go_sem]) rfl ⟨rfl,rfl⟩
  ·have hb2:al 1 7 (wrap64 (((ByteArray.mk ⟨b :: l⟩)[0]'d3).toNat:Int))=true:=by show al 1 7 (wrap64 (b.toNat:Int))=true;rw [wb];exact hb
   go_enter func124,ntmps124
   go_wp2_with (first | (go_at_call 45;refine (cE _ _ _ _).mono ?_;rintro e wx ⟨rfl,hw⟩;replace hw:=hw.symm;subst hw;rw [hb2]))
   refine bodyPost_ret (v:=.tuple #[.int .i64 14,.int .i64 0]) (by simp [results,results124,go_sem]) rfl ⟨rfl,rfl⟩
end Go.Proofs.YtjdgiimfpkideaaGreatDoor
namespace Go.Proofs.YtjdgiimfpkideaaGreatDoor
open Go.Proofs.Tryz
open Go.RowKit Go.Shelf
attribute [local go_sem] Oper.semAt_some
theorem gP {W:World} {C:Nat} {x:Value} {T:TypeId} (h:W.heap[C]?=some (.cells #[x] T)):W.cell? ⟨C,0,none⟩=some x:=by rw [cr h];rfl
theorem rh {base:Nat} {T:TypeId} {n l B k C1 C2 m0 cnt:Nat} {W:World} (hn:1≤n) (I:Nat→World→Prop)
  (hI:∀ i y,I i y→y.heap[C1]?=some (.cells #[.int .i64 (cnt:Int)] 3)∧y.heap[C2]?=some (.cells #[.pointer (some ⟨B,k,none⟩)] 111)∧∃ X Z v L,X.length=k∧Wr base T y B X Z v L∧L.length+i=m0 ∧
   ∀ p r z v',L=p :: r→Wr base T z B X Z v' r→Fr B v v' y z→YieldAt Fence.wide (n - 1) prog l #[.agg #[.int .i64 p.code,.int .i64 p.id,.string p.data]] z fun e z'=>e=.returned (.bool true)∧I (i+1) z')
  (hdr:∀ i y,I i y→I i y.drew) (h0:I 0 W) :
  CallsIn Fence.wide n prog 88 #[.func (.yield l) #[] #[],.pointer (some ⟨C1,0,none⟩),.pointer (some ⟨C2,0,none⟩)] W fun e W'=>(∃ v,e=.returned v)∧I (min cnt m0) W':=by
 obtain ⟨b1,b2,X,Z,v,L,hX,hW,hm,_⟩:=hI 0 W h0;have c1:=gP b1;have c2:=gP b2;have c3:=bI hW.row;rw [hX] at c3;obtain ⟨ad,cp,hv⟩:=hW.hk.form;subst hv;have hm0:m0=L.length:=by omega
 have hL40:=hW.le;subst hm0;generalize hLn:L.length=q at *;generalize hmm:min cnt q=m at *;have hmin:(if q<cnt then (q:Int) else (cnt:Int))=(m:Int):=by
  split<;>omega
 clear hW b1 b2 hm;refine callsIn_of_wp func88 rfl trivial ?_ rfl;simp only [ntmps88,List.size_toArray,List.length_cons,List.length_nil,Nat.reduceAdd,Nat.reduceSub,Array.replicate_succ,Array.replicate_zero,List.push_toArray,List.append_toArray,List.nil_append,List.cons_append];gi_wp2
 refine wpIn_wide.2 ?_;refine wp_region_held_drew (S:=fun z=>z.cell? ⟨C1,0,none⟩=some (.int .i64 (cnt:Int))∧z.cell? ⟨C2,0,none⟩=some (.pointer (some ⟨B,k,none⟩))∧z.cell? ⟨B,k,none⟩=some (.slice ad q cp)) (by kernel_rfl) ⟨c1,c2,c3⟩ (fun hHeld=>?_);refine tq 0 1 2 3 ?_;refine tq 4 5 6 7 ?_;refine dn ?_ _;have h0d:I 0 W.drew:=hdr 0 W h0;clear h0 c1 c2 c3;generalize W.drew=y at h0d hHeld ⊢;clear hHeld;have hmq:m≤q:=by omega
 clear hmin;gi_wp2
 gi_loopw [12] (fun p wr=>∃ i:Nat,i≤m∧p=.int .i64 i∧I i wr) (fun p _=>m - (intOf p).toNat)
 case atStart=>exact ⟨0,Nat.zero_le _,rfl,h0d⟩
 case round =>
  obtain ⟨i,hi,rfl,hF⟩:=hrel;clear h0d;by_cases hlt:i<m
  ·have d1:(i:Int)<(m:Int):=by omega
   obtain ⟨b1,b2,X1,Z1,v1,L1,hX1,hW1,hm1,hY1⟩:=hI i wr hF;match L1,hW1,hm1,hY1 with
   | [],_,hm1,_=>simp at hm1;omega
   | p :: r,hW1,hm1,hY1 =>
    obtain ⟨g,o,cp1,cur,hv1,q1,q2,q3,q4⟩:=hW1.hk.fst;have c2:=gP b2;have c3:=bI hW1.row;rw [hX1] at c3;have x0:wr.cell? ⟨g,o,none⟩=some (.int .i64 p.code):=by rw [cr q1];exact q2
    have x1:wr.cell? ⟨g,o+1,none⟩=some (.int .i64 p.id):=by rw [cr q1];exact q3
    have x2:wr.cell? ⟨g,o+2,none⟩=some (.string p.data):=by rw [cr q1];exact q4
    have hgl:g<wr.heap.size:=(ge.1 q1).1;clear q1 q2 q3 q4;have HW1:=aa hW1;have HF:=aa hF;have C2l:C2<wr.heap.size:=(ge.1 b2).1;have hb1:Below wr.heap.size wr (wr.alloc (.cells #[.int .i64 p.code,.int .i64 p.id,.string p.data] 85)):=(zC _ _).alloc (zD _) _;have hN:=zF wr (.cells #[.int .i64 p.code,.int .i64 p.id,.string p.data] 85);have hBl:=hW1.lt;have hol:∀ g,v1.ownBlock=some g→g<wr.heap.size:=fun g hg=>(hW1.ownB g hg).2.2.1
    have CL:Hid (Calls prog 41 #[.pointer (some ⟨B,k,none⟩)] (wr.alloc (.cells #[.int .i64 p.code,.int .i64 p.id,.string p.data] 85)) fun e z=>e=.returned (.tuple #[])∧z.cell? ⟨wr.heap.size,0,none⟩=some (.int .i64 p.code)∧z.cell? ⟨wr.heap.size,1,none⟩=some (.int .i64 p.id)∧z.cell? ⟨wr.heap.size,2,none⟩=some (.string p.data)∧YieldAt Fence.wide (n - 1) prog l #[.agg #[.int .i64 p.code,.int .i64 p.id,.string p.data]] z fun e z'=>e=.returned (.bool true)∧I (i+1) z'):=aa (by
     rw [← hX1];refine (qW (hW1.below hb1)).mono ?_;rintro e z ⟨rfl,v2,hWz,hfz⟩;have hNz:z.heap[wr.heap.size]?=some (.cells #[.int .i64 p.code,.int .i64 p.id,.string p.data] 85):=(hfz.same _ (ge.1 hN).1 (by omega) (fun e=>by have:=hol _ e;omega)).trans hN;exact ⟨rfl,by rw [cr hNz];rfl,by rw [cr hNz];rfl,by rw [cr hNz];rfl,hY1 p r z v2 rfl hWz ((Fr.of_below hb1).trans hfz)⟩)
    have cc2:(wr.alloc (.cells #[.int .i64 p.code,.int .i64 p.id,.string p.data] 85)).cell? ⟨C2,0,none⟩=some (.pointer (some ⟨B,k,none⟩)):=(hb1.cell (p:=⟨C2,0,none⟩) C2l).trans c2;subst hv1;clear hW1 hF hb1 hN hBl hol HW1 HF b1 b2 hI hY1 hdr;obtain ⟨pc,pi,pd⟩:=p;dsimp only at x0 x1 x2 CL cc2;have h1n:1≤n - 1∨n - 1=0:=by omega
    gi_wp2_with (refine ⟨trivial,?_⟩;gi_at_call 41;refine (callsIn_wide.2 (uh CL)).mono ?_;clear CL;rintro e z ⟨rfl,y0,y1,y2,fn,tmps,assign,body,hy,hR⟩)
    refine hR.mono ?_;rintro e z' ⟨rfl,hI'⟩;gi_wp2
    go_roundw
    case rel=>exact ⟨i+1,by omega,by go_num,hI'⟩
    case measure=>simp [intOf];omega
  ·have e:i=m:=by omega
   subst e;have d1:¬ ((i:Int)<(i:Int)):=by omega
   gi_wp2
   go_end0
   exact ⟨⟨_,rfl⟩,hF⟩
end Go.Proofs.YtjdgiimfpkideaaGreatDoor
