/- WkP -/
import Derived.Test.YtjebigodbnefiaaGreatDoorS28
set_option maxHeartbeats 8000000
set_option maxRecDepth 100000
namespace Go.Proofs.YtjebigodbnefiaaGreatDoor
open Go.RowKit Go.Proofs.Tryz
def cO (e:En):En:={ e with m2:=e.m1,a2:=e.a1,g2:=e.g1,p2:=e.p1,c2:=e.c1,d2:=e.d1,fl:=0 }
def kC (e:En) (F1 F2:List Op.Opt) (t:ByteArray) (now:Int):EO :=
 if 8000<t.size then bA 2
 else if (dJ e F1 F2 && al 0 1000000000 now)=true then
  if t=⟨#[85,112]⟩ then bj (bY now) ⟨cO e,F1,F2,[],[]⟩ t
  else if t=⟨#[68,111,119,110]⟩∨t=⟨#[79,112,101,110]⟩∨t=⟨#[67,108,111,115,101]⟩ then bj (bY now) ⟨e,F1,F2,[],[]⟩ t
  else bA 6
 else bA 1
theorem Fit.fresh {n:Nat} {c:Cx} {e:En} {F1 F2:List Op.Opt} {sn:List Op.Pk} {tl:List ByteArray} (h:Fit n c ⟨e,F1,F2,sn,tl⟩):Fit n c ⟨cO e,F1,F2,sn,tl⟩ :=
 ⟨h.cf,h.cf,h.id,h.tr,⟨show (0:Int)≤0 by decide,show (0:Int)≤3 by decide⟩,h.now,h.f1,h.f2,h.sn,h.tl,h.hd,h.ao,h.cd,h.du⟩
theorem Lay.fresh {T:TypeId} {w0 w1:World} {B:Nat} {c:Cx} {s:St} {v1 v2 vs vt:Value} {q:World} (h:Lay T w0 w1 B c s v1 v2 vs vt q) :
  Lay T w0 w1 B c { s with e:={ s.e with m2:=s.e.m1,a2:=s.e.a1,g2:=s.e.g1,p2:=s.e.p1,c2:=s.e.c1,d2:=s.e.d1 } } v1 v2 vs vt ((((((q.setCell ⟨B,6,none⟩ (.int .i64 s.e.m1)).setCell ⟨B,7,none⟩ (.int .i64 s.e.a1)).setCell ⟨B,8,none⟩ (.int .i64 s.e.g1)).setCell ⟨B,9,none⟩ (.bool s.e.p1)).setCell ⟨B,10,none⟩ (.bool s.e.c1)).setCell ⟨B,11,none⟩ (.bool s.e.d1)) :=
 (((((h.setRaw 6 _ { s.e with m2:=s.e.m1 } rfl).setRaw 7 _ { s.e with m2:=s.e.m1,a2:=s.e.a1 } rfl).setRaw 8 _ { s.e with m2:=s.e.m1,a2:=s.e.a1,g2:=s.e.g1 } rfl).setRaw 9 _ { s.e with m2:=s.e.m1,a2:=s.e.a1,g2:=s.e.g1,p2:=s.e.p1 } rfl).setRaw 10 _ { s.e with m2:=s.e.m1,a2:=s.e.a1,g2:=s.e.g1,p2:=s.e.p1,c2:=s.e.c1 } rfl).setRaw 11 _ { s.e with m2:=s.e.m1,a2:=s.e.a1,g2:=s.e.g1,p2:=s.e.p1,c2:=s.e.c1,d2:=s.e.d1 } rfl
theorem zk {w0 w1:World} {B:Nat} {c:Cx} {s:St} {v1 v2 vs vt:Value} {q:World} (h:Lay 182 w0 w1 B c s v1 v2 vs vt q) :
  Calls prog 133 #[.pointer (some ⟨B,0,none⟩)] q fun r q'=>r=.returned (.tuple #[])∧Lay 182 w0 w1 B c { s with e:=cO s.e } v1 v2 vs vt q':=by
 have b0:=h.cell (i:=0) rfl;have b1:=h.cell (i:=1) rfl;have b2:=h.cell (i:=2) rfl;have b3:=h.cell (i:=3) rfl;have b4:=h.cell (i:=4) rfl;have b5:=h.cell (i:=5) rfl;have c6:=(h).cell (i:=6) rfl;have f6:=(h).frz 6;have t6:=(h).setRaw 6 (.int .i64 s.e.m1) { s.e with m2:=s.e.m1 } rfl;have c7:=(t6).cell (i:=7) rfl;have f7:=(t6).frz 7;have t7:=(t6).setRaw 7 (.int .i64 s.e.a1) { s.e with m2:=s.e.m1,a2:=s.e.a1 } rfl;have c8:=(t7).cell (i:=8) rfl;have f8:=(t7).frz 8;have t8:=(t7).setRaw 8 (.int .i64 s.e.g1) { s.e with m2:=s.e.m1,a2:=s.e.a1,g2:=s.e.g1 } rfl;have c9:=(t8).cell (i:=9) rfl;have f9:=(t8).frz 9;have t9:=(t8).setRaw 9 (.bool s.e.p1) { s.e with m2:=s.e.m1,a2:=s.e.a1,g2:=s.e.g1,p2:=s.e.p1 } rfl;have c10:=(t9).cell (i:=10) rfl;have f10:=(t9).frz 10;have t10:=(t9).setRaw 10 (.bool s.e.c1) { s.e with m2:=s.e.m1,a2:=s.e.a1,g2:=s.e.g1,p2:=s.e.p1,c2:=s.e.c1 } rfl;have c11:=(t10).cell (i:=11) rfl;have f11:=(t10).frz 11;have t11:=(t10).setRaw 11 (.bool s.e.d1) { s.e with m2:=s.e.m1,a2:=s.e.a1,g2:=s.e.g1,p2:=s.e.p1,c2:=s.e.c1,d2:=s.e.d1 } rfl;have c16:=(t11).cell (i:=16) rfl;have f16:=(t11).frz 16;have t16:=(t11).setRaw 16 (.int .i64 0) (cO s.e) rfl;have HL:=aa t16;clear h t6 t7 t8 t9 t10 t11 t16;dsimp only at c7 c8 c9 c10 c11 c16;go_enter func133,ntmps133
 go_wp2
 exact Great.bodyPost_end0 rfl rfl ⟨rfl,uh HL⟩
theorem iE (i:Nat) (t:ByteArray) (w:World) (ht:bq[i]?=some t) (hT:EvT w):Calls prog 131 #[.string t] w fun e w'=>e=.returned (.tuple #[.int .i64 i,.bool true])∧w'=w:=by
 refine (oZ t w hT).mono ?_;rintro e w' ⟨hw,⟨j,hj,he⟩ | ⟨hn,_⟩⟩
 ·have:i=j:=by
   have hd:((List.range 16).all fun a=>(List.range 16).all fun b=>decide (a=b) || !((bq.getD a ⟨#[]⟩).data.toList == (bq.getD b ⟨#[]⟩).data.toList))=true:=by kernel_rfl
   have hi:i<16:=(List.getElem?_eq_some_iff.1 ht).1;have hj':j<16:=(List.getElem?_eq_some_iff.1 hj).1;have h:=List.all_eq_true.1 (List.all_eq_true.1 hd i (List.mem_range.2 hi)) j (List.mem_range.2 hj');rw [List.getD_eq_getElem?_getD,List.getD_eq_getElem?_getD,ht,hj] at h;simpa using h
  subst this;exact ⟨he,hw⟩
 ·exact absurd ht (hn i)
theorem s9 (t:ByteArray) (w:World) (hT:EvT w) (h0:∀ i:Nat,i<4→bq[i]?≠some t):Calls prog 131 #[.string t] w fun e w'=>w'=w∧((∃ i:Nat,3<i∧e=.returned (.tuple #[.int .i64 i,.bool true]))∨e=.returned (.tuple #[.int .i64 0,.bool false])):=by
 refine (oZ t w hT).mono ?_;rintro e w' ⟨hw,⟨j,hj,he⟩ | ⟨_,he⟩⟩
 ·refine ⟨hw,Or.inl ⟨j,?_,he⟩⟩;by_cases h4:j<4
  ·exact absurd hj (h0 j h4)
  ·omega
 ·exact ⟨hw,Or.inr he⟩
theorem u_ (e:En) (x1 x2:Option Addr) (y1 y2:Nat) (F1 F2:List Op.Opt) (t:ByteArray) (now:Int) (w:World) (l1:F1.length≤1048576) (l2:F2.length≤1048576) (h1:HoldsO w (.slice x1 F1.length y1) F1) (h2:HoldsO w (.slice x2 F2.length y2) F2) (hEv:EvT w) (hNx:NxT w) (hSp:SpT w) :
  Calls prog 115 #[.agg (aA e (.slice x1 F1.length y1) (.slice x2 F2.length y2)),.string t,.int .i64 now] w fun r w'=>EvA w (kC e F1 F2 t now) r w':=by
 have CR:=aa fun W (hb:Below w.heap.size w W)=>eG e x1 x2 y1 y2 F1 F2 W (by unfold maxLen;omega) (by unfold maxLen;omega) (h1.below hb rfl) (h2.below hb rfl)
 have CW:=aa fun W (hb:Below w.heap.size w W) (r:Op.right F1=true∧Op.right F2=true)=>qK e x1 x2 y1 y2 F1 F2 now W r.1 r.2 (h1.below hb rfl) (h2.below hb rfl)
 have CT:=aa fun W=>qB now W
 clear h1 h2;have HF:=aa (ky (e:=e) (F1:=F1) (F2:=F2) (now:=now));have HG:=aa (ez (e:=e) (F1:=F1) (F2:=F2));obtain ⟨_,hA,hX,hb⟩:=br w (.cells (aA e (.slice x1 F1.length y1) (.slice x2 F2.length y2)) 72) (.cells bk 121);obtain ⟨A,eA⟩:∃ A,w.heap.size=A:=⟨_,rfl⟩;have hXw:w.heap.size≤A+1:=by omega
 rw [eA] at hA hX;have H0:=aa (zA hA (zA hX hb));clear hA hX hb;unfold kC;generalize dJ e F1 F2=ok1 at *;generalize al 0 1000000000 now=ok2 at *;obtain ⟨n1,e1⟩:∃ n,F1.length=n:=⟨_,rfl⟩;obtain ⟨n2,e2⟩:∃ n,F2.length=n:=⟨_,rfl⟩;rw [e1] at CR CW H0 ⊢;rw [e2] at CR CW H0 ⊢;go_enter func115,ntmps115
 go_upto_region 1 with fail
 refine aI (fun z=>z.heap[A]?=some (.cells (aA e (.slice x1 n1 y1) (.slice x2 n2 y2)) 72)∧z.heap[A+1]?=some (.cells bk 121)∧Below w.heap.size w z) ?_ ?_
 ·exact uh H0
 clear H0;rintro z hz;have HZ:=aa hz;clear hz;by_cases hts:8000<t.size
 ·have ht2:(8000:Int)<(t.size:Int):=by omega
  go_wp2_with (first
   | (refine wpList_buildTo rfl 121 _ rfl (some 13) rfl (aC ag (.slice none 0 0) (.slice none 0 0) (.slice none 0 0) (.slice none 0 0) 2) (by as_aux_lemma=>kernel_rfl) ?_)
   | (refine wpList_store_rowTo rfl 121 (.tmp 6) (.tmp 13) rfl rfl (A+1) (aC ag (.slice none 0 0) (.slice none 0 0) (.slice none 0 0) (.slice none 0 0) 2) rfl rfl 121 bk (uh HZ).2.1 aw rfl (aG _ _ _ _ _ _ _ _ _ _ _ _ _ _) ?_))
  refine bodyPost_ret (v:=.agg (aC ag (.slice none 0 0) (.slice none 0 0) (.slice none 0 0) (.slice none 0 0) 2)) (by simp [results,results115,asAddr,ay (setRow_heap z (A+1) _ (aC ag (.slice none 0 0) (.slice none 0 0) (.slice none 0 0) (.slice none 0 0) 2) _ _ (uh HZ).2.1)]) rfl ?_;exact bE (am (uh HZ).2.2 hXw _) 2
 have ht2:¬ ((8000:Int)<(t.size:Int)):=by omega
 go_wp2_with (first
  | (refine wpList_load_row rfl 72 (.tmp 3) rfl A rfl 72 (aA e (.slice x1 n1 y1) (.slice x2 n2 y2)) (0,0) _ (uh HZ).1 underlying72 rfl aL ?_))
 refine (uh CR _ (uh HZ).2.2).mono ?_;rintro r z1 ⟨rfl,hb1⟩;have hA1:=(hb1.block A (ge.1 (uh HZ).1).1).trans (uh HZ).1;have hX1:=(hb1.block (A+1) (ge.1 (uh HZ).2.1).1).trans (uh HZ).2.1;have H1:=aa (zA hA1 (zA hX1 ((uh HZ).2.2.trans (hb1.mono (uh HZ).2.2.size))));clear hA1 hX1 hb1 CR HZ;cases ok1
 ·go_wp2_with (first
   | (go_at_call 130;refine (uh CT _).mono ?_;rintro r ws ⟨rfl,hws⟩;replace hws:=hws.symm;subst hws)
   | (refine wpList_buildTo rfl 121 _ rfl (some 22) rfl (aC ag (.slice none 0 0) (.slice none 0 0) (.slice none 0 0) (.slice none 0 0) 1) (by as_aux_lemma=>kernel_rfl) ?_)
   | (refine wpList_store_rowTo rfl 121 (.tmp 6) (.tmp 22) rfl rfl (A+1) (aC ag (.slice none 0 0) (.slice none 0 0) (.slice none 0 0) (.slice none 0 0) 1) rfl rfl 121 bk (uh H1).2.1 aw rfl (aG _ _ _ _ _ _ _ _ _ _ _ _ _ _) ?_))
  refine bodyPost_ret (v:=.agg (aC ag (.slice none 0 0) (.slice none 0 0) (.slice none 0 0) (.slice none 0 0) 1)) (by simp [results,results115,asAddr,ay (setRow_heap z1 (A+1) _ (aC ag (.slice none 0 0) (.slice none 0 0) (.slice none 0 0) (.slice none 0 0) 1) _ _ (uh H1).2.1)]) rfl ?_;exact bE (am (uh H1).2.2 hXw _) 1
 ·cases ok2
  ·go_wp2_with (first
    | (go_at_call 130;refine (uh CT _).mono ?_;rintro r ws ⟨rfl,hws⟩;replace hws:=hws.symm;subst hws)
    | (refine wpList_buildTo rfl 121 _ rfl (some 22) rfl (aC ag (.slice none 0 0) (.slice none 0 0) (.slice none 0 0) (.slice none 0 0) 1) (by as_aux_lemma=>kernel_rfl) ?_)
    | (refine wpList_store_rowTo rfl 121 (.tmp 6) (.tmp 22) rfl rfl (A+1) (aC ag (.slice none 0 0) (.slice none 0 0) (.slice none 0 0) (.slice none 0 0) 1) rfl rfl 121 bk (uh H1).2.1 aw rfl (aG _ _ _ _ _ _ _ _ _ _ _ _ _ _) ?_))
   refine bodyPost_ret (v:=.agg (aC ag (.slice none 0 0) (.slice none 0 0) (.slice none 0 0) (.slice none 0 0) 1)) (by simp [results,results115,asAddr,ay (setRow_heap z1 (A+1) _ (aC ag (.slice none 0 0) (.slice none 0 0) (.slice none 0 0) (.slice none 0 0) 1) _ _ (uh H1).2.1)]) rfl ?_;exact bE (am (uh H1).2.2 hXw _) 1
  ·replace HF:=aa (uh HF rfl);replace CW:=aa fun W hb=>uh CW W hb (uh HG rfl)
   by_cases hNUp:t=⟨#[85,112]⟩
   ·subst hNUp;have CN:=aa fun W (hW:EvT W)=>iE 0 ⟨#[85,112]⟩ W rfl hW
    go_wp2_with (first
     | (go_at_call 130;refine (uh CT _).mono ?_;rintro r ws ⟨rfl,hws⟩;replace hws:=hws.symm;subst hws)
     | (go_at_call 131;refine (uh CN _ (hEv.below (uh H1).2.2)).mono ?_;rintro r ws ⟨rfl,hws⟩;replace hws:=hws.symm;subst hws)
     | (refine wpList_load_row rfl 72 (.tmp 3) rfl A rfl 72 (aA e (.slice x1 n1 y1) (.slice x2 n2 y2)) (0,0) _ (uh H1).1 underlying72 rfl aL ?_))
    refine (uh CW _ (uh H1).2.2).mono ?_;rintro r z2 ⟨B,v1,v2,rfl,hL⟩;have HL:=aa hL;clear hL;go_wp2_with fail
    refine (zk (uh HL)).mono ?_;rintro r z3 ⟨rfl,hL3⟩;have CE:=aa (fL z1 z2 B (bY now) ⟨cO e,F1,F2,[],[]⟩ v1 v2 z3 hL3 rfl rfl (uh HF).1.fresh 0 ⟨#[85,112]⟩ rfl (hEv.below (uh H1).2.2) (hNx.below (uh H1).2.2) (hSp.below (uh H1).2.2) (dh (i:=0) (by decide) rfl (uh HF).2.1.1 (uh HF).2.1.2).1 (dh (i:=0) (by decide) rfl (uh HF).2.1.1 (uh HF).2.1.2).2);clear hL3;go_wp2_with fail
    refine (uh CE).mono ?_;rintro r z9 hE;clear CE;obtain ⟨cs,rfl,hsz,hall,hX2,hEv⟩:=hE.out (uh H1).2.2 (uh H1).2.1 hXw;have HE2:=aa (zA hX2 hEv);clear hE hX2 hEv
    go_wp2_with (first
     | (refine wpList_store_rowTo rfl 121 (.tmp 6) (.tmp 46) rfl rfl (A+1) cs rfl rfl 121 bk (uh HE2).1 (by rw [hsz];exact aw) (by rw [hsz];rfl) hall ?_))
    refine bodyPost_ret (v:=.agg cs) (by simp [results,results115,asAddr,ay (setRow_heap z9 (A+1) _ cs _ _ (uh HE2).1) hsz]) rfl ?_;exact (uh HE2).2
   by_cases hNDown:t=⟨#[68,111,119,110]⟩
   ·subst hNDown;have CN:=aa fun W (hW:EvT W)=>iE 1 ⟨#[68,111,119,110]⟩ W rfl hW
    go_wp2_with (first
     | (go_at_call 130;refine (uh CT _).mono ?_;rintro r ws ⟨rfl,hws⟩;replace hws:=hws.symm;subst hws)
     | (go_at_call 131;refine (uh CN _ (hEv.below (uh H1).2.2)).mono ?_;rintro r ws ⟨rfl,hws⟩;replace hws:=hws.symm;subst hws)
     | (refine wpList_load_row rfl 72 (.tmp 3) rfl A rfl 72 (aA e (.slice x1 n1 y1) (.slice x2 n2 y2)) (0,0) _ (uh H1).1 underlying72 rfl aL ?_))
    refine (uh CW _ (uh H1).2.2).mono ?_;rintro r z2 ⟨B,v1,v2,rfl,hL⟩;have HL:=aa hL;clear hL;have CE:=aa (fL z1 z2 B (bY now) ⟨e,F1,F2,[],[]⟩ v1 v2 z2 (uh HL) rfl rfl (uh HF).1 1 ⟨#[68,111,119,110]⟩ rfl (hEv.below (uh H1).2.2) (hNx.below (uh H1).2.2) (hSp.below (uh H1).2.2) (dh (i:=1) (by decide) rfl (uh HF).2.1.1 (uh HF).2.1.2).1 (dh (i:=1) (by decide) rfl (uh HF).2.1.1 (uh HF).2.1.2).2);go_wp2_with fail
    refine (uh CE).mono ?_;rintro r z9 hE;clear CE;obtain ⟨cs,rfl,hsz,hall,hX2,hEv⟩:=hE.out (uh H1).2.2 (uh H1).2.1 hXw;have HE2:=aa (zA hX2 hEv);clear hE hX2 hEv
    go_wp2_with (first
     | (refine wpList_store_rowTo rfl 121 (.tmp 6) (.tmp 46) rfl rfl (A+1) cs rfl rfl 121 bk (uh HE2).1 (by rw [hsz];exact aw) (by rw [hsz];rfl) hall ?_))
    refine bodyPost_ret (v:=.agg cs) (by simp [results,results115,asAddr,ay (setRow_heap z9 (A+1) _ cs _ _ (uh HE2).1) hsz]) rfl ?_;exact (uh HE2).2
   by_cases hNOpen:t=⟨#[79,112,101,110]⟩
   ·subst hNOpen;have CN:=aa fun W (hW:EvT W)=>iE 2 ⟨#[79,112,101,110]⟩ W rfl hW
    go_wp2_with (first
     | (go_at_call 130;refine (uh CT _).mono ?_;rintro r ws ⟨rfl,hws⟩;replace hws:=hws.symm;subst hws)
     | (go_at_call 131;refine (uh CN _ (hEv.below (uh H1).2.2)).mono ?_;rintro r ws ⟨rfl,hws⟩;replace hws:=hws.symm;subst hws)
     | (refine wpList_load_row rfl 72 (.tmp 3) rfl A rfl 72 (aA e (.slice x1 n1 y1) (.slice x2 n2 y2)) (0,0) _ (uh H1).1 underlying72 rfl aL ?_))
    refine (uh CW _ (uh H1).2.2).mono ?_;rintro r z2 ⟨B,v1,v2,rfl,hL⟩;have HL:=aa hL;clear hL;have CE:=aa (fL z1 z2 B (bY now) ⟨e,F1,F2,[],[]⟩ v1 v2 z2 (uh HL) rfl rfl (uh HF).1 2 ⟨#[79,112,101,110]⟩ rfl (hEv.below (uh H1).2.2) (hNx.below (uh H1).2.2) (hSp.below (uh H1).2.2) (dh (i:=2) (by decide) rfl (uh HF).2.1.1 (uh HF).2.1.2).1 (dh (i:=2) (by decide) rfl (uh HF).2.1.1 (uh HF).2.1.2).2);go_wp2_with fail
    refine (uh CE).mono ?_;rintro r z9 hE;clear CE;obtain ⟨cs,rfl,hsz,hall,hX2,hEv⟩:=hE.out (uh H1).2.2 (uh H1).2.1 hXw;have HE2:=aa (zA hX2 hEv);clear hE hX2 hEv
    go_wp2_with (first
     | (refine wpList_store_rowTo rfl 121 (.tmp 6) (.tmp 46) rfl rfl (A+1) cs rfl rfl 121 bk (uh HE2).1 (by rw [hsz];exact aw) (by rw [hsz];rfl) hall ?_))
    refine bodyPost_ret (v:=.agg cs) (by simp [results,results115,asAddr,ay (setRow_heap z9 (A+1) _ cs _ _ (uh HE2).1) hsz]) rfl ?_;exact (uh HE2).2
   by_cases hNClose:t=⟨#[67,108,111,115,101]⟩
   ·subst hNClose;have CN:=aa fun W (hW:EvT W)=>iE 3 ⟨#[67,108,111,115,101]⟩ W rfl hW
    go_wp2_with (first
     | (go_at_call 130;refine (uh CT _).mono ?_;rintro r ws ⟨rfl,hws⟩;replace hws:=hws.symm;subst hws)
     | (go_at_call 131;refine (uh CN _ (hEv.below (uh H1).2.2)).mono ?_;rintro r ws ⟨rfl,hws⟩;replace hws:=hws.symm;subst hws)
     | (refine wpList_load_row rfl 72 (.tmp 3) rfl A rfl 72 (aA e (.slice x1 n1 y1) (.slice x2 n2 y2)) (0,0) _ (uh H1).1 underlying72 rfl aL ?_))
    refine (uh CW _ (uh H1).2.2).mono ?_;rintro r z2 ⟨B,v1,v2,rfl,hL⟩;have HL:=aa hL;clear hL;have CE:=aa (fL z1 z2 B (bY now) ⟨e,F1,F2,[],[]⟩ v1 v2 z2 (uh HL) rfl rfl (uh HF).1 3 ⟨#[67,108,111,115,101]⟩ rfl (hEv.below (uh H1).2.2) (hNx.below (uh H1).2.2) (hSp.below (uh H1).2.2) (dh (i:=3) (by decide) rfl (uh HF).2.1.1 (uh HF).2.1.2).1 (dh (i:=3) (by decide) rfl (uh HF).2.1.1 (uh HF).2.1.2).2);go_wp2_with fail
    refine (uh CE).mono ?_;rintro r z9 hE;clear CE;obtain ⟨cs,rfl,hsz,hall,hX2,hEv⟩:=hE.out (uh H1).2.2 (uh H1).2.1 hXw;have HE2:=aa (zA hX2 hEv);clear hE hX2 hEv
    go_wp2_with (first
     | (refine wpList_store_rowTo rfl 121 (.tmp 6) (.tmp 46) rfl rfl (A+1) cs rfl rfl 121 bk (uh HE2).1 (by rw [hsz];exact aw) (by rw [hsz];rfl) hall ?_))
    refine bodyPost_ret (v:=.agg cs) (by simp [results,results115,asAddr,ay (setRow_heap z9 (A+1) _ cs _ _ (uh HE2).1) hsz]) rfl ?_;exact (uh HE2).2
   have h4:∀ i:Nat,i<4→bq[i]?≠some t:=by
    intro i hi h;match i,hi with
    | 0,_=>exact hNUp (Option.some.inj h).symm
    | 1,_=>exact hNDown (Option.some.inj h).symm
    | 2,_=>exact hNOpen (Option.some.inj h).symm
    | 3,_=>exact hNClose (Option.some.inj h).symm
   have CN:=aa fun W (hW:EvT W)=>s9 t W hW h4
   go_wp2_with (first | (go_at_call 130;refine (uh CT _).mono ?_;rintro r ws ⟨rfl,hws⟩;replace hws:=hws.symm;subst hws))
   refine (uh CN _ (hEv.below (uh H1).2.2)).mono ?_;rintro r ws ⟨hws,⟨i,hi,rfl⟩ | rfl⟩
   ·replace hws:=hws.symm;subst hws;have di:(3:Int)<(i:Int):=by omega
    go_wp2_with (first
     | (go_at_call 130;refine (uh CT _).mono ?_;rintro r ws ⟨rfl,hws⟩;replace hws:=hws.symm;subst hws)
     | (refine wpList_buildTo rfl 121 _ rfl (some 34) rfl (aC ag (.slice none 0 0) (.slice none 0 0) (.slice none 0 0) (.slice none 0 0) 6) (by as_aux_lemma=>kernel_rfl) ?_)
     | (refine wpList_store_rowTo rfl 121 (.tmp 6) (.tmp 34) rfl rfl (A+1) (aC ag (.slice none 0 0) (.slice none 0 0) (.slice none 0 0) (.slice none 0 0) 6) rfl rfl 121 bk (uh H1).2.1 aw rfl (aG _ _ _ _ _ _ _ _ _ _ _ _ _ _) ?_))
    refine bodyPost_ret (v:=.agg (aC ag (.slice none 0 0) (.slice none 0 0) (.slice none 0 0) (.slice none 0 0) 6)) (by simp [results,results115,asAddr,ay (setRow_heap z1 (A+1) _ (aC ag (.slice none 0 0) (.slice none 0 0) (.slice none 0 0) (.slice none 0 0) 6) _ _ (uh H1).2.1)]) rfl ?_;exact bE (am (uh H1).2.2 hXw _) 6
   ·replace hws:=hws.symm;subst hws
    go_wp2_with (first
     | (go_at_call 130;refine (uh CT _).mono ?_;rintro r ws ⟨rfl,hws⟩;replace hws:=hws.symm;subst hws)
     | (refine wpList_buildTo rfl 121 _ rfl (some 34) rfl (aC ag (.slice none 0 0) (.slice none 0 0) (.slice none 0 0) (.slice none 0 0) 6) (by as_aux_lemma=>kernel_rfl) ?_)
     | (refine wpList_store_rowTo rfl 121 (.tmp 6) (.tmp 34) rfl rfl (A+1) (aC ag (.slice none 0 0) (.slice none 0 0) (.slice none 0 0) (.slice none 0 0) 6) rfl rfl 121 bk (uh H1).2.1 aw rfl (aG _ _ _ _ _ _ _ _ _ _ _ _ _ _) ?_))
    refine bodyPost_ret (v:=.agg (aC ag (.slice none 0 0) (.slice none 0 0) (.slice none 0 0) (.slice none 0 0) 6)) (by simp [results,results115,asAddr,ay (setRow_heap z1 (A+1) _ (aC ag (.slice none 0 0) (.slice none 0 0) (.slice none 0 0) (.slice none 0 0) 6) _ _ (uh H1).2.1)]) rfl ?_;exact bE (am (uh H1).2.2 hXw _) 6
end Go.Proofs.YtjebigodbnefiaaGreatDoor
