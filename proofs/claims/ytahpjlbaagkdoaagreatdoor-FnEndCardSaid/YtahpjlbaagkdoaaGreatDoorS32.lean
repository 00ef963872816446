/- WkP LwEh -/
import Derived.Test.YtahpjlbaagkdoaaGreatDoorS31
set_option maxHeartbeats 8000000
set_option maxRecDepth 100000
namespace Go.Proofs.YtahpjlbaagkdoaaGreatDoor
open Go.RowKit Go.Proofs.Tryz
def freshE (e:En):En:={ e with m2:=e.m1,a2:=e.a1,g2:=e.g1,p2:=e.p1,c2:=e.c1,d2:=e.d1,fl:=0 }
def doF (e:En) (F1 F2:List Op.Opt) (t:ByteArray) (now:Int):EO :=
 if 8000<t.size then eoErr 2
 else if (enOk e F1 F2 && within 0 1000000000 now)=true then
  if t=⟨#[85,112]⟩ then evF (cx0 now) ⟨freshE e,F1,F2,[],[]⟩ t
  else if t=⟨#[68,111,119,110]⟩∨t=⟨#[79,112,101,110]⟩∨t=⟨#[67,108,111,115,101]⟩ then evF (cx0 now) ⟨e,F1,F2,[],[]⟩ t
  else eoErr 6
 else eoErr 1
theorem Fit.fresh {n:Nat} {c:Cx} {e:En} {F1 F2:List Op.Opt} {sn:List Op.Pk} {tl:List ByteArray} (h:Fit n c ⟨e,F1,F2,sn,tl⟩):Fit n c ⟨freshE e,F1,F2,sn,tl⟩ :=
 ⟨h.cf,h.cf,h.id,h.tr,⟨show (0:Int)≤0 by decide,show (0:Int)≤3 by decide⟩,h.now,h.f1,h.f2,h.sn,h.tl,h.hd,h.ao,h.cd,h.du⟩
theorem of_toList {t u:ByteArray} (h:t.toList=u.data.toList):t=u:=by
 rw [ByteArray.toList_eq] at h;obtain ⟨⟨l⟩⟩:=t;obtain ⟨⟨m⟩⟩:=u;have:l=m:=h
 rw [this]
theorem Lay.fresh {T:TypeId} {w0 w1:World} {B:Nat} {c:Cx} {s:St} {v1 v2 vs vt:Value} {q:World} (h:Lay T w0 w1 B c s v1 v2 vs vt q) :
  Lay T w0 w1 B c { s with e:={ s.e with m2:=s.e.m1,a2:=s.e.a1,g2:=s.e.g1,p2:=s.e.p1,c2:=s.e.c1,d2:=s.e.d1 } } v1 v2 vs vt ((((((q.setCell ⟨B,6,none⟩ (.int .i64 s.e.m1)).setCell ⟨B,7,none⟩ (.int .i64 s.e.a1)).setCell ⟨B,8,none⟩ (.int .i64 s.e.g1)).setCell ⟨B,9,none⟩ (.bool s.e.p1)).setCell ⟨B,10,none⟩ (.bool s.e.c1)).setCell ⟨B,11,none⟩ (.bool s.e.d1)) :=
 (((((h.setRaw 6 _ { s.e with m2:=s.e.m1 } rfl).setRaw 7 _ { s.e with m2:=s.e.m1,a2:=s.e.a1 } rfl).setRaw 8 _ { s.e with m2:=s.e.m1,a2:=s.e.a1,g2:=s.e.g1 } rfl).setRaw 9 _ { s.e with m2:=s.e.m1,a2:=s.e.a1,g2:=s.e.g1,p2:=s.e.p1 } rfl).setRaw 10 _ { s.e with m2:=s.e.m1,a2:=s.e.a1,g2:=s.e.g1,p2:=s.e.p1,c2:=s.e.c1 } rfl).setRaw 11 _ { s.e with m2:=s.e.m1,a2:=s.e.a1,g2:=s.e.g1,p2:=s.e.p1,c2:=s.e.c1,d2:=s.e.d1 } rfl
theorem iFresh {w0 w1:World} {B:Nat} {c:Cx} {s:St} {v1 v2 vs vt:Value} {q:World} (h:Lay 83 w0 w1 B c s v1 v2 vs vt q) :
  Calls prog 40 #[.pointer (some ⟨B,0,none⟩)] q fun r q'=>r=.returned (.tuple #[])∧Lay 83 w0 w1 B c { s with e:=freshE s.e } v1 v2 vs vt q':=by
 have b0:=h.cell (i:=0) rfl;have b1:=h.cell (i:=1) rfl;have b2:=h.cell (i:=2) rfl;have b3:=h.cell (i:=3) rfl;have b4:=h.cell (i:=4) rfl;have b5:=h.cell (i:=5) rfl;have c6:=(h).cell (i:=6) rfl;have f6:=(h).frz 6;have t6:=(h).setRaw 6 (.int .i64 s.e.m1) { s.e with m2:=s.e.m1 } rfl;have c7:=(t6).cell (i:=7) rfl;have f7:=(t6).frz 7;have t7:=(t6).setRaw 7 (.int .i64 s.e.a1) { s.e with m2:=s.e.m1,a2:=s.e.a1 } rfl;have c8:=(t7).cell (i:=8) rfl;have f8:=(t7).frz 8;have t8:=(t7).setRaw 8 (.int .i64 s.e.g1) { s.e with m2:=s.e.m1,a2:=s.e.a1,g2:=s.e.g1 } rfl;have c9:=(t8).cell (i:=9) rfl;have f9:=(t8).frz 9;have t9:=(t8).setRaw 9 (.bool s.e.p1) { s.e with m2:=s.e.m1,a2:=s.e.a1,g2:=s.e.g1,p2:=s.e.p1 } rfl;have c10:=(t9).cell (i:=10) rfl;have f10:=(t9).frz 10;have t10:=(t9).setRaw 10 (.bool s.e.c1) { s.e with m2:=s.e.m1,a2:=s.e.a1,g2:=s.e.g1,p2:=s.e.p1,c2:=s.e.c1 } rfl;have c11:=(t10).cell (i:=11) rfl;have f11:=(t10).frz 11;have t11:=(t10).setRaw 11 (.bool s.e.d1) { s.e with m2:=s.e.m1,a2:=s.e.a1,g2:=s.e.g1,p2:=s.e.p1,c2:=s.e.c1,d2:=s.e.d1 } rfl;have c16:=(t11).cell (i:=16) rfl;have f16:=(t11).frz 16;have t16:=(t11).setRaw 16 (.int .i64 0) (freshE s.e) rfl;have HL:=hide t16;clear h t6 t7 t8 t9 t10 t11 t16;dsimp only at c7 c8 c9 c10 c11 c16;go_enter func40,ntmps40
 go_wp2
 exact Great.bodyPost_end0 rfl rfl ⟨rfl,uh HL⟩
theorem sEndDo (e:En) (x1 x2:Option Addr) (y1 y2:Nat) (F1 F2:List Op.Opt) (t:ByteArray) (now:Int) (w:World) (l1:F1.length≤1048576) (l2:F2.length≤1048576) (h1:HoldsO w (.slice x1 F1.length y1) F1) (h2:HoldsO w (.slice x2 F2.length y2) F2) :
  Calls prog 10 #[.agg (enC e (.slice x1 F1.length y1) (.slice x2 F2.length y2)),.string t,.int .i64 now] w fun r w'=>EvA w (doF e F1 F2 t now) r w':=by
 have CB:=hide fun W (hb:Below w.heap.size w W)=>sBegin e x1 x2 y1 y2 F1 F2 now W l1 l2 (h1.below hb rfl) (h2.below hb rfl)
 clear h1 h2;have HF:=hide (fit0 (e:=e) (F1:=F1) (F2:=F2) (now:=now));obtain ⟨_,hA,hX,hb⟩:=start2r w (.cells (enC e (.slice x1 F1.length y1) (.slice x2 F2.length y2)) 29) (.cells eoZ 42);obtain ⟨A,eA⟩:∃ A,w.heap.size=A:=⟨_,rfl⟩;have hXw:w.heap.size≤A+1:=by omega
 rw [eA] at hA hX;have H0:=hide (And.intro hA (And.intro hX hb));clear hA hX hb;unfold doF;generalize (enOk e F1 F2 && within 0 1000000000 now)=ok at *;obtain ⟨n1,e1⟩:∃ n,F1.length=n:=⟨_,rfl⟩;obtain ⟨n2,e2⟩:∃ n,F2.length=n:=⟨_,rfl⟩;rw [e1] at CB H0 ⊢;rw [e2] at CB H0 ⊢;go_enter func10,ntmps10
 go_upto_region 1 with fail
 refine gen_world (fun z=>z.heap[A]?=some (.cells (enC e (.slice x1 n1 y1) (.slice x2 n2 y2)) 29)∧z.heap[A+1]?=some (.cells eoZ 42)∧Below w.heap.size w z) ?_ ?_
 ·exact uh H0
 clear H0;rintro z hz;have HZ:=hide hz;clear hz;by_cases hts:8000<t.size
 ·have ht2:(8000:Int)<(t.size:Int):=by omega
  go_wp2_with (first
   | (refine wpList_buildTo rfl 42 _ rfl (some 12) rfl (eoC enZero (.slice none 0 0) (.slice none 0 0) (.slice none 0 0) (.slice none 0 0) 2) (by as_aux_lemma=>kernel_rfl) ?_)
   | (refine wpList_store_rowTo rfl 42 (.tmp 6) (.tmp 12) rfl rfl (A+1) (eoC enZero (.slice none 0 0) (.slice none 0 0) (.slice none 0 0) (.slice none 0 0) 2) rfl rfl 42 eoZ (uh HZ).2.1 infoEo rfl (eoC_all _ _ _ _ _ _ _ _ _ _ _ _ _ _) ?_))
  refine bodyPost_ret (v:=.agg (eoC enZero (.slice none 0 0) (.slice none 0 0) (.slice none 0 0) (.slice none 0 0) 2)) (by simp [results,results10,asAddr,loadEo (setRow_heap z (A+1) _ (eoC enZero (.slice none 0 0) (.slice none 0 0) (.slice none 0 0) (.slice none 0 0) 2) _ _ (uh HZ).2.1)]) rfl ?_;exact evErr (below_row (uh HZ).2.2 hXw _) 2
 have ht2:¬ ((8000:Int)<(t.size:Int)):=by omega
 go_wp2_with (first
  | (refine wpList_load_row rfl 29 (.tmp 3) rfl A rfl 29 (enC e (.slice x1 n1 y1) (.slice x2 n2 y2)) (0,0) _ (uh HZ).1 underlying29 rfl infoE ?_))
 refine (uh CB _ (uh HZ).2.2).mono ?_;rintro r z1 ⟨B,v1,v2,rfl,hL⟩;have hl:=hL.low;have hA1:=(hl.block A (ge.1 (uh HZ).1).1).trans (uh HZ).1;have hX1:=(hl.block (A+1) (ge.1 (uh HZ).2.1).1).trans (uh HZ).2.1;have H1:=hide (And.intro hA1 (And.intro hX1 ((uh HZ).2.2.trans (hl.mono (uh HZ).2.2.size))));have HL:=hide hL;clear hL hl hA1 hX1 CB;cases ok
 ·go_wp2_with (first
   | (refine wpList_buildTo rfl 42 _ rfl (some 21) rfl (eoC enZero (.slice none 0 0) (.slice none 0 0) (.slice none 0 0) (.slice none 0 0) 1) (by as_aux_lemma=>kernel_rfl) ?_)
   | (refine wpList_store_rowTo rfl 42 (.tmp 6) (.tmp 21) rfl rfl (A+1) (eoC enZero (.slice none 0 0) (.slice none 0 0) (.slice none 0 0) (.slice none 0 0) 1) rfl rfl 42 eoZ (uh H1).2.1 infoEo rfl (eoC_all _ _ _ _ _ _ _ _ _ _ _ _ _ _) ?_))
  refine bodyPost_ret (v:=.agg (eoC enZero (.slice none 0 0) (.slice none 0 0) (.slice none 0 0) (.slice none 0 0) 1)) (by simp [results,results10,asAddr,loadEo (setRow_heap z1 (A+1) _ (eoC enZero (.slice none 0 0) (.slice none 0 0) (.slice none 0 0) (.slice none 0 0) 1) _ _ (uh H1).2.1)]) rfl ?_;exact evErr (below_row (uh H1).2.2 hXw _) 1
 ·replace HF:=hide (uh HF rfl);by_cases hNUp:t=⟨#[85,112]⟩
  ·subst hNUp;have b0:=(uh HL).cell (i:=0) rfl;have b1:=(uh HL).cell (i:=1) rfl;have b2:=(uh HL).cell (i:=2) rfl;have b3:=(uh HL).cell (i:=3) rfl;have b4:=(uh HL).cell (i:=4) rfl;have b5:=(uh HL).cell (i:=5) rfl;have c6:=(uh HL).cell (i:=6) rfl;have f6:=(uh HL).frz 6;have t6:=(uh HL).setRaw 6 (.int .i64 e.m1) { e with m2:=e.m1 } rfl;have c7:=(t6).cell (i:=7) rfl;have f7:=(t6).frz 7;have t7:=(t6).setRaw 7 (.int .i64 e.a1) { e with m2:=e.m1,a2:=e.a1 } rfl;have c8:=(t7).cell (i:=8) rfl;have f8:=(t7).frz 8;have t8:=(t7).setRaw 8 (.int .i64 e.g1) { e with m2:=e.m1,a2:=e.a1,g2:=e.g1 } rfl;have c9:=(t8).cell (i:=9) rfl;have f9:=(t8).frz 9;have t9:=(t8).setRaw 9 (.bool e.p1) { e with m2:=e.m1,a2:=e.a1,g2:=e.g1,p2:=e.p1 } rfl;have c10:=(t9).cell (i:=10) rfl;have f10:=(t9).frz 10;have t10:=(t9).setRaw 10 (.bool e.c1) { e with m2:=e.m1,a2:=e.a1,g2:=e.g1,p2:=e.p1,c2:=e.c1 } rfl;have c11:=(t10).cell (i:=11) rfl;have f11:=(t10).frz 11;have t11:=(t10).setRaw 11 (.bool e.d1) { e with m2:=e.m1,a2:=e.a1,g2:=e.g1,p2:=e.p1,c2:=e.c1,d2:=e.d1 } rfl;have c16:=(t11).cell (i:=16) rfl;have f16:=(t11).frz 16;have t16:=(t11).setRaw 16 (.int .i64 0) (freshE e) rfl;have CE:=hide (sEvent z z1 B (cx0 now) ⟨freshE e,F1,F2,[],[]⟩ v1 v2 _ t16 rfl rfl (uh HF).1.fresh ⟨#[85,112]⟩ (by decide) (fun a ha=>actS6 _ a ((fsm6 (i:=0) (by decide) rfl (uh HF).2.1.1 (uh HF).2.1.2).1 a ha)) (fsm6 (i:=0) (by decide) rfl (uh HF).2.1.1 (uh HF).2.1.2).2);clear t6 t7 t8 t9 t10 t11 t16;dsimp only at b0 b1 b2 b3 b4 b5 c6 c7 c8 c9 c10 c11 c16;go_wp2_with fail
   refine (uh CE).mono ?_;rintro r z9 ⟨u1,u2,us,ut,rfl,hE'⟩;have hE:EvA z (evF (cx0 now) ⟨freshE e,F1,F2,[],[]⟩ ⟨#[85,112]⟩) (.returned (.agg (eoC (evF (cx0 now) ⟨freshE e,F1,F2,[],[]⟩ ⟨#[85,112]⟩).e u1 u2 us ut (evF (cx0 now) ⟨freshE e,F1,F2,[],[]⟩ ⟨#[85,112]⟩).cd))) z9:=⟨u1,u2,us,ut,rfl,hE'⟩;clear hE' CE;generalize eoC (evF (cx0 now) ⟨freshE e,F1,F2,[],[]⟩ ⟨#[85,112]⟩).e u1 u2 us ut (evF (cx0 now) ⟨freshE e,F1,F2,[],[]⟩ ⟨#[85,112]⟩).cd=cs at *;obtain ⟨hsz,hall,hX2,hEv⟩:=hE.up (uh HZ).2.2 (uh HZ).2.1 hXw;have HE2:=hide (And.intro hX2 hEv);clear hE hX2 hEv
   go_wp2_with (first
    | (refine wpList_store_rowTo rfl 42 (.tmp 6) (.tmp 54) rfl rfl (A+1) cs rfl rfl 42 eoZ (uh HE2).1 (by rw [hsz];exact infoEo) (by rw [hsz];rfl) hall ?_))
   refine bodyPost_ret (v:=.agg cs) (by simp [results,results10,asAddr,loadEo (setRow_heap z9 (A+1) _ cs _ _ (uh HE2).1) hsz]) rfl ?_;exact (uh HE2).2
  by_cases hNDown:t=⟨#[68,111,119,110]⟩
  ·subst hNDown;have CE:=hide (sEvent z z1 B (cx0 now) ⟨e,F1,F2,[],[]⟩ v1 v2 z1 (uh HL) rfl rfl (uh HF).1 ⟨#[68,111,119,110]⟩ (by decide) (fun a ha=>actS6 _ a ((fsm6 (i:=1) (by decide) rfl (uh HF).2.1.1 (uh HF).2.1.2).1 a ha)) (fsm6 (i:=1) (by decide) rfl (uh HF).2.1.1 (uh HF).2.1.2).2);go_wp2_with fail
   refine (uh CE).mono ?_;rintro r z9 ⟨u1,u2,us,ut,rfl,hE'⟩;have hE:EvA z (evF (cx0 now) ⟨e,F1,F2,[],[]⟩ ⟨#[68,111,119,110]⟩) (.returned (.agg (eoC (evF (cx0 now) ⟨e,F1,F2,[],[]⟩ ⟨#[68,111,119,110]⟩).e u1 u2 us ut (evF (cx0 now) ⟨e,F1,F2,[],[]⟩ ⟨#[68,111,119,110]⟩).cd))) z9:=⟨u1,u2,us,ut,rfl,hE'⟩;clear hE' CE;generalize eoC (evF (cx0 now) ⟨e,F1,F2,[],[]⟩ ⟨#[68,111,119,110]⟩).e u1 u2 us ut (evF (cx0 now) ⟨e,F1,F2,[],[]⟩ ⟨#[68,111,119,110]⟩).cd=cs at *;obtain ⟨hsz,hall,hX2,hEv⟩:=hE.up (uh HZ).2.2 (uh HZ).2.1 hXw;have HE2:=hide (And.intro hX2 hEv);clear hE hX2 hEv
   go_wp2_with (first
    | (refine wpList_store_rowTo rfl 42 (.tmp 6) (.tmp 54) rfl rfl (A+1) cs rfl rfl 42 eoZ (uh HE2).1 (by rw [hsz];exact infoEo) (by rw [hsz];rfl) hall ?_))
   refine bodyPost_ret (v:=.agg cs) (by simp [results,results10,asAddr,loadEo (setRow_heap z9 (A+1) _ cs _ _ (uh HE2).1) hsz]) rfl ?_;exact (uh HE2).2
  by_cases hNOpen:t=⟨#[79,112,101,110]⟩
  ·subst hNOpen;have CE:=hide (sEvent z z1 B (cx0 now) ⟨e,F1,F2,[],[]⟩ v1 v2 z1 (uh HL) rfl rfl (uh HF).1 ⟨#[79,112,101,110]⟩ (by decide) (fun a ha=>actS6 _ a ((fsm6 (i:=2) (by decide) rfl (uh HF).2.1.1 (uh HF).2.1.2).1 a ha)) (fsm6 (i:=2) (by decide) rfl (uh HF).2.1.1 (uh HF).2.1.2).2);go_wp2_with fail
   refine (uh CE).mono ?_;rintro r z9 ⟨u1,u2,us,ut,rfl,hE'⟩;have hE:EvA z (evF (cx0 now) ⟨e,F1,F2,[],[]⟩ ⟨#[79,112,101,110]⟩) (.returned (.agg (eoC (evF (cx0 now) ⟨e,F1,F2,[],[]⟩ ⟨#[79,112,101,110]⟩).e u1 u2 us ut (evF (cx0 now) ⟨e,F1,F2,[],[]⟩ ⟨#[79,112,101,110]⟩).cd))) z9:=⟨u1,u2,us,ut,rfl,hE'⟩;clear hE' CE;generalize eoC (evF (cx0 now) ⟨e,F1,F2,[],[]⟩ ⟨#[79,112,101,110]⟩).e u1 u2 us ut (evF (cx0 now) ⟨e,F1,F2,[],[]⟩ ⟨#[79,112,101,110]⟩).cd=cs at *;obtain ⟨hsz,hall,hX2,hEv⟩:=hE.up (uh HZ).2.2 (uh HZ).2.1 hXw;have HE2:=hide (And.intro hX2 hEv);clear hE hX2 hEv
   go_wp2_with (first
    | (refine wpList_store_rowTo rfl 42 (.tmp 6) (.tmp 54) rfl rfl (A+1) cs rfl rfl 42 eoZ (uh HE2).1 (by rw [hsz];exact infoEo) (by rw [hsz];rfl) hall ?_))
   refine bodyPost_ret (v:=.agg cs) (by simp [results,results10,asAddr,loadEo (setRow_heap z9 (A+1) _ cs _ _ (uh HE2).1) hsz]) rfl ?_;exact (uh HE2).2
  by_cases hNClose:t=⟨#[67,108,111,115,101]⟩
  ·subst hNClose;have CE:=hide (sEvent z z1 B (cx0 now) ⟨e,F1,F2,[],[]⟩ v1 v2 z1 (uh HL) rfl rfl (uh HF).1 ⟨#[67,108,111,115,101]⟩ (by decide) (fun a ha=>actS6 _ a ((fsm6 (i:=3) (by decide) rfl (uh HF).2.1.1 (uh HF).2.1.2).1 a ha)) (fsm6 (i:=3) (by decide) rfl (uh HF).2.1.1 (uh HF).2.1.2).2);go_wp2_with fail
   refine (uh CE).mono ?_;rintro r z9 ⟨u1,u2,us,ut,rfl,hE'⟩;have hE:EvA z (evF (cx0 now) ⟨e,F1,F2,[],[]⟩ ⟨#[67,108,111,115,101]⟩) (.returned (.agg (eoC (evF (cx0 now) ⟨e,F1,F2,[],[]⟩ ⟨#[67,108,111,115,101]⟩).e u1 u2 us ut (evF (cx0 now) ⟨e,F1,F2,[],[]⟩ ⟨#[67,108,111,115,101]⟩).cd))) z9:=⟨u1,u2,us,ut,rfl,hE'⟩;clear hE' CE;generalize eoC (evF (cx0 now) ⟨e,F1,F2,[],[]⟩ ⟨#[67,108,111,115,101]⟩).e u1 u2 us ut (evF (cx0 now) ⟨e,F1,F2,[],[]⟩ ⟨#[67,108,111,115,101]⟩).cd=cs at *;obtain ⟨hsz,hall,hX2,hEv⟩:=hE.up (uh HZ).2.2 (uh HZ).2.1 hXw;have HE2:=hide (And.intro hX2 hEv);clear hE hX2 hEv
   go_wp2_with (first
    | (refine wpList_store_rowTo rfl 42 (.tmp 6) (.tmp 54) rfl rfl (A+1) cs rfl rfl 42 eoZ (uh HE2).1 (by rw [hsz];exact infoEo) (by rw [hsz];rfl) hall ?_))
   refine bodyPost_ret (v:=.agg cs) (by simp [results,results10,asAddr,loadEo (setRow_heap z9 (A+1) _ cs _ _ (uh HE2).1) hsz]) rfl ?_;exact (uh HE2).2
  have nlUp:(t.toList == [85,112])=false:=beq_eq_false_iff_ne.2 fun h=>hNUp (of_toList h)
  have nlDown:(t.toList == [68,111,119,110])=false:=beq_eq_false_iff_ne.2 fun h=>hNDown (of_toList h)
  have nlOpen:(t.toList == [79,112,101,110])=false:=beq_eq_false_iff_ne.2 fun h=>hNOpen (of_toList h)
  have nlClose:(t.toList == [67,108,111,115,101])=false:=beq_eq_false_iff_ne.2 fun h=>hNClose (of_toList h)
  go_wp2_with (first
   | (refine wpList_buildTo rfl 42 _ rfl (some 36) rfl (eoC enZero (.slice none 0 0) (.slice none 0 0) (.slice none 0 0) (.slice none 0 0) 6) (by as_aux_lemma=>kernel_rfl) ?_)
   | (refine wpList_store_rowTo rfl 42 (.tmp 6) (.tmp 36) rfl rfl (A+1) (eoC enZero (.slice none 0 0) (.slice none 0 0) (.slice none 0 0) (.slice none 0 0) 6) rfl rfl 42 eoZ (uh H1).2.1 infoEo rfl (eoC_all _ _ _ _ _ _ _ _ _ _ _ _ _ _) ?_))
  refine bodyPost_ret (v:=.agg (eoC enZero (.slice none 0 0) (.slice none 0 0) (.slice none 0 0) (.slice none 0 0) 6)) (by simp [results,results10,asAddr,loadEo (setRow_heap z1 (A+1) _ (eoC enZero (.slice none 0 0) (.slice none 0 0) (.slice none 0 0) (.slice none 0 0) 6) _ _ (uh H1).2.1)]) rfl ?_;exact evErr (below_row (uh H1).2.2 hXw _) 6
theorem evNumAt (i:Nat) (t:ByteArray) (w:World) (ht:evTexts[i]?=some t) (hT:EvT w):Calls prog 38 #[.string t] w fun e w'=>e=.returned (.tuple #[.int .i64 i,.bool true])∧w'=w:=by
 refine (evNum t w hT).mono ?_;rintro e w' ⟨hw,⟨j,hj,he⟩ | ⟨hn,_⟩⟩
 ·have:i=j:=by
   have hd:((List.range 16).all fun a=>(List.range 16).all fun b=>decide (a=b) || !((evTexts.getD a ⟨#[]⟩).data.toList == (evTexts.getD b ⟨#[]⟩).data.toList))=true:=by kernel_rfl
   have hi:i<16:=(List.getElem?_eq_some_iff.1 ht).1;have hj':j<16:=(List.getElem?_eq_some_iff.1 hj).1;have h:=List.all_eq_true.1 (List.all_eq_true.1 hd i (List.mem_range.2 hi)) j (List.mem_range.2 hj');rw [List.getD_eq_getElem?_getD,List.getD_eq_getElem?_getD,ht,hj] at h;simpa using h
  subst this;exact ⟨he,hw⟩
 ·exact absurd ht (hn i)
theorem evNumNo (t:ByteArray) (w:World) (hT:EvT w) (h0:∀ i:Nat,i<4→evTexts[i]?≠some t):Calls prog 38 #[.string t] w fun e w'=>w'=w∧((∃ i:Nat,3<i∧e=.returned (.tuple #[.int .i64 i,.bool true]))∨e=.returned (.tuple #[.int .i64 0,.bool false])):=by
 refine (evNum t w hT).mono ?_;rintro e w' ⟨hw,⟨j,hj,he⟩ | ⟨_,he⟩⟩
 ·refine ⟨hw,Or.inl ⟨j,?_,he⟩⟩;by_cases h4:j<4
  ·exact absurd hj (h0 j h4)
  ·omega
 ·exact ⟨hw,Or.inr he⟩
theorem iEndDo (e:En) (x1 x2:Option Addr) (y1 y2:Nat) (F1 F2:List Op.Opt) (t:ByteArray) (now:Int) (w:World) (l1:F1.length≤1048576) (l2:F2.length≤1048576) (h1:HoldsO w (.slice x1 F1.length y1) F1) (h2:HoldsO w (.slice x2 F2.length y2) F2) (hEv:EvT w) (hNx:NxT w) (hSp:SpT w) :
  Calls prog 9 #[.agg (enC e (.slice x1 F1.length y1) (.slice x2 F2.length y2)),.string t,.int .i64 now] w fun r w'=>EvA w (doF e F1 F2 t now) r w':=by
 have CR:=hide fun W (hb:Below w.heap.size w W)=>implEndRightE e x1 x2 y1 y2 F1 F2 W (by unfold maxLen;omega) (by unfold maxLen;omega) (h1.below hb rfl) (h2.below hb rfl)
 have CW:=hide fun W (hb:Below w.heap.size w W) (r:Op.right F1=true∧Op.right F2=true)=>iWork e x1 x2 y1 y2 F1 F2 now W r.1 r.2 (h1.below hb rfl) (h2.below hb rfl)
 have CT:=hide fun W=>iTime now W
 clear h1 h2;have HF:=hide (fit0 (e:=e) (F1:=F1) (F2:=F2) (now:=now));have HG:=hide (enOk_rights (e:=e) (F1:=F1) (F2:=F2));obtain ⟨_,hA,hX,hb⟩:=start2r w (.cells (enC e (.slice x1 F1.length y1) (.slice x2 F2.length y2)) 29) (.cells eoZ 42);obtain ⟨A,eA⟩:∃ A,w.heap.size=A:=⟨_,rfl⟩;have hXw:w.heap.size≤A+1:=by omega
 rw [eA] at hA hX;have H0:=hide (And.intro hA (And.intro hX hb));clear hA hX hb;unfold doF;generalize enOk e F1 F2=ok1 at *;generalize within 0 1000000000 now=ok2 at *;obtain ⟨n1,e1⟩:∃ n,F1.length=n:=⟨_,rfl⟩;obtain ⟨n2,e2⟩:∃ n,F2.length=n:=⟨_,rfl⟩;rw [e1] at CR CW H0 ⊢;rw [e2] at CR CW H0 ⊢;go_enter func9,ntmps9
 go_upto_region 1 with fail
 refine gen_world (fun z=>z.heap[A]?=some (.cells (enC e (.slice x1 n1 y1) (.slice x2 n2 y2)) 29)∧z.heap[A+1]?=some (.cells eoZ 42)∧Below w.heap.size w z) ?_ ?_
 ·exact uh H0
 clear H0;rintro z hz;have HZ:=hide hz;clear hz;by_cases hts:8000<t.size
 ·have ht2:(8000:Int)<(t.size:Int):=by omega
  go_wp2_with (first
   | (refine wpList_buildTo rfl 42 _ rfl (some 13) rfl (eoC enZero (.slice none 0 0) (.slice none 0 0) (.slice none 0 0) (.slice none 0 0) 2) (by as_aux_lemma=>kernel_rfl) ?_)
   | (refine wpList_store_rowTo rfl 42 (.tmp 6) (.tmp 13) rfl rfl (A+1) (eoC enZero (.slice none 0 0) (.slice none 0 0) (.slice none 0 0) (.slice none 0 0) 2) rfl rfl 42 eoZ (uh HZ).2.1 infoEo rfl (eoC_all _ _ _ _ _ _ _ _ _ _ _ _ _ _) ?_))
  refine bodyPost_ret (v:=.agg (eoC enZero (.slice none 0 0) (.slice none 0 0) (.slice none 0 0) (.slice none 0 0) 2)) (by simp [results,results9,asAddr,loadEo (setRow_heap z (A+1) _ (eoC enZero (.slice none 0 0) (.slice none 0 0) (.slice none 0 0) (.slice none 0 0) 2) _ _ (uh HZ).2.1)]) rfl ?_;exact evErr (below_row (uh HZ).2.2 hXw _) 2
 have ht2:¬ ((8000:Int)<(t.size:Int)):=by omega
 go_wp2_with (first
  | (refine wpList_load_row rfl 29 (.tmp 3) rfl A rfl 29 (enC e (.slice x1 n1 y1) (.slice x2 n2 y2)) (0,0) _ (uh HZ).1 underlying29 rfl infoE ?_))
 refine (uh CR _ (uh HZ).2.2).mono ?_;rintro r z1 ⟨rfl,hb1⟩;have hA1:=(hb1.block A (ge.1 (uh HZ).1).1).trans (uh HZ).1;have hX1:=(hb1.block (A+1) (ge.1 (uh HZ).2.1).1).trans (uh HZ).2.1;have H1:=hide (And.intro hA1 (And.intro hX1 ((uh HZ).2.2.trans (hb1.mono (uh HZ).2.2.size))));clear hA1 hX1 hb1 CR HZ;cases ok1
 ·go_wp2_with (first
   | (go_at_call 37;refine (uh CT _).mono ?_;rintro r ws ⟨rfl,hws⟩;replace hws:=hws.symm;subst hws)
   | (refine wpList_buildTo rfl 42 _ rfl (some 22) rfl (eoC enZero (.slice none 0 0) (.slice none 0 0) (.slice none 0 0) (.slice none 0 0) 1) (by as_aux_lemma=>kernel_rfl) ?_)
   | (refine wpList_store_rowTo rfl 42 (.tmp 6) (.tmp 22) rfl rfl (A+1) (eoC enZero (.slice none 0 0) (.slice none 0 0) (.slice none 0 0) (.slice none 0 0) 1) rfl rfl 42 eoZ (uh H1).2.1 infoEo rfl (eoC_all _ _ _ _ _ _ _ _ _ _ _ _ _ _) ?_))
  refine bodyPost_ret (v:=.agg (eoC enZero (.slice none 0 0) (.slice none 0 0) (.slice none 0 0) (.slice none 0 0) 1)) (by simp [results,results9,asAddr,loadEo (setRow_heap z1 (A+1) _ (eoC enZero (.slice none 0 0) (.slice none 0 0) (.slice none 0 0) (.slice none 0 0) 1) _ _ (uh H1).2.1)]) rfl ?_;exact evErr (below_row (uh H1).2.2 hXw _) 1
 ·cases ok2
  ·go_wp2_with (first
    | (go_at_call 37;refine (uh CT _).mono ?_;rintro r ws ⟨rfl,hws⟩;replace hws:=hws.symm;subst hws)
    | (refine wpList_buildTo rfl 42 _ rfl (some 22) rfl (eoC enZero (.slice none 0 0) (.slice none 0 0) (.slice none 0 0) (.slice none 0 0) 1) (by as_aux_lemma=>kernel_rfl) ?_)
    | (refine wpList_store_rowTo rfl 42 (.tmp 6) (.tmp 22) rfl rfl (A+1) (eoC enZero (.slice none 0 0) (.slice none 0 0) (.slice none 0 0) (.slice none 0 0) 1) rfl rfl 42 eoZ (uh H1).2.1 infoEo rfl (eoC_all _ _ _ _ _ _ _ _ _ _ _ _ _ _) ?_))
   refine bodyPost_ret (v:=.agg (eoC enZero (.slice none 0 0) (.slice none 0 0) (.slice none 0 0) (.slice none 0 0) 1)) (by simp [results,results9,asAddr,loadEo (setRow_heap z1 (A+1) _ (eoC enZero (.slice none 0 0) (.slice none 0 0) (.slice none 0 0) (.slice none 0 0) 1) _ _ (uh H1).2.1)]) rfl ?_;exact evErr (below_row (uh H1).2.2 hXw _) 1
  ·replace HF:=hide (uh HF rfl);replace CW:=hide fun W hb=>uh CW W hb (uh HG rfl)
   by_cases hNUp:t=⟨#[85,112]⟩
   ·subst hNUp;have CN:=hide fun W (hW:EvT W)=>evNumAt 0 ⟨#[85,112]⟩ W rfl hW
    go_wp2_with (first
     | (go_at_call 37;refine (uh CT _).mono ?_;rintro r ws ⟨rfl,hws⟩;replace hws:=hws.symm;subst hws)
     | (go_at_call 38;refine (uh CN _ (hEv.below (uh H1).2.2)).mono ?_;rintro r ws ⟨rfl,hws⟩;replace hws:=hws.symm;subst hws)
     | (refine wpList_load_row rfl 29 (.tmp 3) rfl A rfl 29 (enC e (.slice x1 n1 y1) (.slice x2 n2 y2)) (0,0) _ (uh H1).1 underlying29 rfl infoE ?_))
    refine (uh CW _ (uh H1).2.2).mono ?_;rintro r z2 ⟨B,v1,v2,rfl,hL⟩;have HL:=hide hL;clear hL;go_wp2_with fail
    refine (iFresh (uh HL)).mono ?_;rintro r z3 ⟨rfl,hL3⟩;have CE:=hide (iHappen z1 z2 B (cx0 now) ⟨freshE e,F1,F2,[],[]⟩ v1 v2 z3 hL3 rfl rfl (uh HF).1.fresh 0 ⟨#[85,112]⟩ rfl (hEv.below (uh H1).2.2) (hNx.below (uh H1).2.2) (hSp.below (uh H1).2.2) (fsm6 (i:=0) (by decide) rfl (uh HF).2.1.1 (uh HF).2.1.2).1 (fsm6 (i:=0) (by decide) rfl (uh HF).2.1.1 (uh HF).2.1.2).2);clear hL3;go_wp2_with fail
    refine (uh CE).mono ?_;rintro r z9 ⟨u1,u2,us,ut,rfl,hE'⟩;have hE:EvA z1 (evF (cx0 now) ⟨freshE e,F1,F2,[],[]⟩ ⟨#[85,112]⟩) (.returned (.agg (eoC (evF (cx0 now) ⟨freshE e,F1,F2,[],[]⟩ ⟨#[85,112]⟩).e u1 u2 us ut (evF (cx0 now) ⟨freshE e,F1,F2,[],[]⟩ ⟨#[85,112]⟩).cd))) z9:=⟨u1,u2,us,ut,rfl,hE'⟩;clear hE' CE;generalize eoC (evF (cx0 now) ⟨freshE e,F1,F2,[],[]⟩ ⟨#[85,112]⟩).e u1 u2 us ut (evF (cx0 now) ⟨freshE e,F1,F2,[],[]⟩ ⟨#[85,112]⟩).cd=cs at *;obtain ⟨hsz,hall,hX2,hEv⟩:=hE.up (uh H1).2.2 (uh H1).2.1 hXw;have HE2:=hide (And.intro hX2 hEv);clear hE hX2 hEv
    go_wp2_with (first
     | (refine wpList_store_rowTo rfl 42 (.tmp 6) (.tmp 46) rfl rfl (A+1) cs rfl rfl 42 eoZ (uh HE2).1 (by rw [hsz];exact infoEo) (by rw [hsz];rfl) hall ?_))
    refine bodyPost_ret (v:=.agg cs) (by simp [results,results9,asAddr,loadEo (setRow_heap z9 (A+1) _ cs _ _ (uh HE2).1) hsz]) rfl ?_;exact (uh HE2).2
   by_cases hNDown:t=⟨#[68,111,119,110]⟩
   ·subst hNDown;have CN:=hide fun W (hW:EvT W)=>evNumAt 1 ⟨#[68,111,119,110]⟩ W rfl hW
    go_wp2_with (first
     | (go_at_call 37;refine (uh CT _).mono ?_;rintro r ws ⟨rfl,hws⟩;replace hws:=hws.symm;subst hws)
     | (go_at_call 38;refine (uh CN _ (hEv.below (uh H1).2.2)).mono ?_;rintro r ws ⟨rfl,hws⟩;replace hws:=hws.symm;subst hws)
     | (refine wpList_load_row rfl 29 (.tmp 3) rfl A rfl 29 (enC e (.slice x1 n1 y1) (.slice x2 n2 y2)) (0,0) _ (uh H1).1 underlying29 rfl infoE ?_))
    refine (uh CW _ (uh H1).2.2).mono ?_;rintro r z2 ⟨B,v1,v2,rfl,hL⟩;have HL:=hide hL;clear hL;have CE:=hide (iHappen z1 z2 B (cx0 now) ⟨e,F1,F2,[],[]⟩ v1 v2 z2 (uh HL) rfl rfl (uh HF).1 1 ⟨#[68,111,119,110]⟩ rfl (hEv.below (uh H1).2.2) (hNx.below (uh H1).2.2) (hSp.below (uh H1).2.2) (fsm6 (i:=1) (by decide) rfl (uh HF).2.1.1 (uh HF).2.1.2).1 (fsm6 (i:=1) (by decide) rfl (uh HF).2.1.1 (uh HF).2.1.2).2);go_wp2_with fail
    refine (uh CE).mono ?_;rintro r z9 ⟨u1,u2,us,ut,rfl,hE'⟩;have hE:EvA z1 (evF (cx0 now) ⟨e,F1,F2,[],[]⟩ ⟨#[68,111,119,110]⟩) (.returned (.agg (eoC (evF (cx0 now) ⟨e,F1,F2,[],[]⟩ ⟨#[68,111,119,110]⟩).e u1 u2 us ut (evF (cx0 now) ⟨e,F1,F2,[],[]⟩ ⟨#[68,111,119,110]⟩).cd))) z9:=⟨u1,u2,us,ut,rfl,hE'⟩;clear hE' CE;generalize eoC (evF (cx0 now) ⟨e,F1,F2,[],[]⟩ ⟨#[68,111,119,110]⟩).e u1 u2 us ut (evF (cx0 now) ⟨e,F1,F2,[],[]⟩ ⟨#[68,111,119,110]⟩).cd=cs at *;obtain ⟨hsz,hall,hX2,hEv⟩:=hE.up (uh H1).2.2 (uh H1).2.1 hXw;have HE2:=hide (And.intro hX2 hEv);clear hE hX2 hEv
    go_wp2_with (first
     | (refine wpList_store_rowTo rfl 42 (.tmp 6) (.tmp 46) rfl rfl (A+1) cs rfl rfl 42 eoZ (uh HE2).1 (by rw [hsz];exact infoEo) (by rw [hsz];rfl) hall ?_))
    refine bodyPost_ret (v:=.agg cs) (by simp [results,results9,asAddr,loadEo (setRow_heap z9 (A+1) _ cs _ _ (uh HE2).1) hsz]) rfl ?_;exact (uh HE2).2
   by_cases hNOpen:t=⟨#[79,112,101,110]⟩
   ·subst hNOpen;have CN:=hide fun W (hW:EvT W)=>evNumAt 2 ⟨#[79,112,101,110]⟩ W rfl hW
    go_wp2_with (first
     | (go_at_call 37;refine (uh CT _).mono ?_;rintro r ws ⟨rfl,hws⟩;replace hws:=hws.symm;subst hws)
     | (go_at_call 38;refine (uh CN _ (hEv.below (uh H1).2.2)).mono ?_;rintro r ws ⟨rfl,hws⟩;replace hws:=hws.symm;subst hws)
     | (refine wpList_load_row rfl 29 (.tmp 3) rfl A rfl 29 (enC e (.slice x1 n1 y1) (.slice x2 n2 y2)) (0,0) _ (uh H1).1 underlying29 rfl infoE ?_))
    refine (uh CW _ (uh H1).2.2).mono ?_;rintro r z2 ⟨B,v1,v2,rfl,hL⟩;have HL:=hide hL;clear hL;have CE:=hide (iHappen z1 z2 B (cx0 now) ⟨e,F1,F2,[],[]⟩ v1 v2 z2 (uh HL) rfl rfl (uh HF).1 2 ⟨#[79,112,101,110]⟩ rfl (hEv.below (uh H1).2.2) (hNx.below (uh H1).2.2) (hSp.below (uh H1).2.2) (fsm6 (i:=2) (by decide) rfl (uh HF).2.1.1 (uh HF).2.1.2).1 (fsm6 (i:=2) (by decide) rfl (uh HF).2.1.1 (uh HF).2.1.2).2);go_wp2_with fail
    refine (uh CE).mono ?_;rintro r z9 ⟨u1,u2,us,ut,rfl,hE'⟩;have hE:EvA z1 (evF (cx0 now) ⟨e,F1,F2,[],[]⟩ ⟨#[79,112,101,110]⟩) (.returned (.agg (eoC (evF (cx0 now) ⟨e,F1,F2,[],[]⟩ ⟨#[79,112,101,110]⟩).e u1 u2 us ut (evF (cx0 now) ⟨e,F1,F2,[],[]⟩ ⟨#[79,112,101,110]⟩).cd))) z9:=⟨u1,u2,us,ut,rfl,hE'⟩;clear hE' CE;generalize eoC (evF (cx0 now) ⟨e,F1,F2,[],[]⟩ ⟨#[79,112,101,110]⟩).e u1 u2 us ut (evF (cx0 now) ⟨e,F1,F2,[],[]⟩ ⟨#[79,112,101,110]⟩).cd=cs at *;obtain ⟨hsz,hall,hX2,hEv⟩:=hE.up (uh H1).2.2 (uh H1).2.1 hXw;have HE2:=hide (And.intro hX2 hEv);clear hE hX2 hEv
    go_wp2_with (first
     | (refine wpList_store_rowTo rfl 42 (.tmp 6) (.tmp 46) rfl rfl (A+1) cs rfl rfl 42 eoZ (uh HE2).1 (by rw [hsz];exact infoEo) (by rw [hsz];rfl) hall ?_))
    refine bodyPost_ret (v:=.agg cs) (by simp [results,results9,asAddr,loadEo (setRow_heap z9 (A+1) _ cs _ _ (uh HE2).1) hsz]) rfl ?_;exact (uh HE2).2
   by_cases hNClose:t=⟨#[67,108,111,115,101]⟩
   ·subst hNClose;have CN:=hide fun W (hW:EvT W)=>evNumAt 3 ⟨#[67,108,111,115,101]⟩ W rfl hW
    go_wp2_with (first
     | (go_at_call 37;refine (uh CT _).mono ?_;rintro r ws ⟨rfl,hws⟩;replace hws:=hws.symm;subst hws)
     | (go_at_call 38;refine (uh CN _ (hEv.below (uh H1).2.2)).mono ?_;rintro r ws ⟨rfl,hws⟩;replace hws:=hws.symm;subst hws)
     | (refine wpList_load_row rfl 29 (.tmp 3) rfl A rfl 29 (enC e (.slice x1 n1 y1) (.slice x2 n2 y2)) (0,0) _ (uh H1).1 underlying29 rfl infoE ?_))
    refine (uh CW _ (uh H1).2.2).mono ?_;rintro r z2 ⟨B,v1,v2,rfl,hL⟩;have HL:=hide hL;clear hL;have CE:=hide (iHappen z1 z2 B (cx0 now) ⟨e,F1,F2,[],[]⟩ v1 v2 z2 (uh HL) rfl rfl (uh HF).1 3 ⟨#[67,108,111,115,101]⟩ rfl (hEv.below (uh H1).2.2) (hNx.below (uh H1).2.2) (hSp.below (uh H1).2.2) (fsm6 (i:=3) (by decide) rfl (uh HF).2.1.1 (uh HF).2.1.2).1 (fsm6 (i:=3) (by decide) rfl (uh HF).2.1.1 (uh HF).2.1.2).2);go_wp2_with fail
    refine (uh CE).mono ?_;rintro r z9 ⟨u1,u2,us,ut,rfl,hE'⟩;have hE:EvA z1 (evF (cx0 now) ⟨e,F1,F2,[],[]⟩ ⟨#[67,108,111,115,101]⟩) (.returned (.agg (eoC (evF (cx0 now) ⟨e,F1,F2,[],[]⟩ ⟨#[67,108,111,115,101]⟩).e u1 u2 us ut (evF (cx0 now) ⟨e,F1,F2,[],[]⟩ ⟨#[67,108,111,115,101]⟩).cd))) z9:=⟨u1,u2,us,ut,rfl,hE'⟩;clear hE' CE;generalize eoC (evF (cx0 now) ⟨e,F1,F2,[],[]⟩ ⟨#[67,108,111,115,101]⟩).e u1 u2 us ut (evF (cx0 now) ⟨e,F1,F2,[],[]⟩ ⟨#[67,108,111,115,101]⟩).cd=cs at *;obtain ⟨hsz,hall,hX2,hEv⟩:=hE.up (uh H1).2.2 (uh H1).2.1 hXw;have HE2:=hide (And.intro hX2 hEv);clear hE hX2 hEv
    go_wp2_with (first
     | (refine wpList_store_rowTo rfl 42 (.tmp 6) (.tmp 46) rfl rfl (A+1) cs rfl rfl 42 eoZ (uh HE2).1 (by rw [hsz];exact infoEo) (by rw [hsz];rfl) hall ?_))
    refine bodyPost_ret (v:=.agg cs) (by simp [results,results9,asAddr,loadEo (setRow_heap z9 (A+1) _ cs _ _ (uh HE2).1) hsz]) rfl ?_;exact (uh HE2).2
   have h4:∀ i:Nat,i<4→evTexts[i]?≠some t:=by
    intro i hi h;match i,hi with
    | 0,_=>exact hNUp (Option.some.inj h).symm
    | 1,_=>exact hNDown (Option.some.inj h).symm
    | 2,_=>exact hNOpen (Option.some.inj h).symm
    | 3,_=>exact hNClose (Option.some.inj h).symm
   have CN:=hide fun W (hW:EvT W)=>evNumNo t W hW h4
   go_wp2_with (first | (go_at_call 37;refine (uh CT _).mono ?_;rintro r ws ⟨rfl,hws⟩;replace hws:=hws.symm;subst hws))
   refine (uh CN _ (hEv.below (uh H1).2.2)).mono ?_;rintro r ws ⟨hws,⟨i,hi,rfl⟩ | rfl⟩
   ·replace hws:=hws.symm;subst hws;have di:(3:Int)<(i:Int):=by omega
    go_wp2_with (first
     | (go_at_call 37;refine (uh CT _).mono ?_;rintro r ws ⟨rfl,hws⟩;replace hws:=hws.symm;subst hws)
     | (refine wpList_buildTo rfl 42 _ rfl (some 34) rfl (eoC enZero (.slice none 0 0) (.slice none 0 0) (.slice none 0 0) (.slice none 0 0) 6) (by as_aux_lemma=>kernel_rfl) ?_)
     | (refine wpList_store_rowTo rfl 42 (.tmp 6) (.tmp 34) rfl rfl (A+1) (eoC enZero (.slice none 0 0) (.slice none 0 0) (.slice none 0 0) (.slice none 0 0) 6) rfl rfl 42 eoZ (uh H1).2.1 infoEo rfl (eoC_all _ _ _ _ _ _ _ _ _ _ _ _ _ _) ?_))
    refine bodyPost_ret (v:=.agg (eoC enZero (.slice none 0 0) (.slice none 0 0) (.slice none 0 0) (.slice none 0 0) 6)) (by simp [results,results9,asAddr,loadEo (setRow_heap z1 (A+1) _ (eoC enZero (.slice none 0 0) (.slice none 0 0) (.slice none 0 0) (.slice none 0 0) 6) _ _ (uh H1).2.1)]) rfl ?_;exact evErr (below_row (uh H1).2.2 hXw _) 6
   ·replace hws:=hws.symm;subst hws
    go_wp2_with (first
     | (go_at_call 37;refine (uh CT _).mono ?_;rintro r ws ⟨rfl,hws⟩;replace hws:=hws.symm;subst hws)
     | (refine wpList_buildTo rfl 42 _ rfl (some 34) rfl (eoC enZero (.slice none 0 0) (.slice none 0 0) (.slice none 0 0) (.slice none 0 0) 6) (by as_aux_lemma=>kernel_rfl) ?_)
     | (refine wpList_store_rowTo rfl 42 (.tmp 6) (.tmp 34) rfl rfl (A+1) (eoC enZero (.slice none 0 0) (.slice none 0 0) (.slice none 0 0) (.slice none 0 0) 6) rfl rfl 42 eoZ (uh H1).2.1 infoEo rfl (eoC_all _ _ _ _ _ _ _ _ _ _ _ _ _ _) ?_))
    refine bodyPost_ret (v:=.agg (eoC enZero (.slice none 0 0) (.slice none 0 0) (.slice none 0 0) (.slice none 0 0) 6)) (by simp [results,results9,asAddr,loadEo (setRow_heap z1 (A+1) _ (eoC enZero (.slice none 0 0) (.slice none 0 0) (.slice none 0 0) (.slice none 0 0) 6) _ _ (uh H1).2.1)]) rfl ?_;exact evErr (below_row (uh H1).2.2 hXw _) 6
theorem doF_len (e:En) (F1 F2:List Op.Opt) (t:ByteArray) (now:Int) (hl:∀ k,EoB (eoErr k)) (hv:∀ (s:St) (t:ByteArray),Fit 0 (cx0 now) s→(fsmF s.e.st t).2.1.length≤30→EoB (evF (cx0 now) s t)):EoB (doF e F1 F2 t now):=by
 unfold doF;split
 ·exact hl _
 split
 ·rename_i h
  obtain ⟨hf,hs,_⟩:=fit0 h;split
  ·rename_i ht
   subst ht;exact hv _ _ hf.fresh (fsm6 (i:=0) (by decide) rfl hs.1 hs.2).2
  split
  ·rename_i ht
   rcases ht with rfl | rfl | rfl
   ·exact hv _ _ hf (fsm6 (i:=1) (by decide) rfl hs.1 hs.2).2
   ·exact hv _ _ hf (fsm6 (i:=2) (by decide) rfl hs.1 hs.2).2
   ·exact hv _ _ hf (fsm6 (i:=3) (by decide) rfl hs.1 hs.2).2
  ·exact hl _
 ·exact hl _
end Go.Proofs.YtahpjlbaagkdoaaGreatDoor
namespace Go.Proofs.YtahpjlbaagkdoaaGreatDoor
open Go.RowKit Go.Proofs.Tryz
theorem rangeRow {W:World} {E:Nat} {cl:List Value} {T:TypeId} (h:W.heap[E]?=some (.cells cl.toArray T)):W.rangeAt E 0 cl:=by
 intro j u hu;rw [cr h,Nat.zero_add,List.getElem?_toArray];exact hu
theorem load_rowG {ops:Array Oper} {rest:List Oper} {o:Oper} {a:Act} {w:World} {Q:Exit→Act→World→Prop} (hw:Region.wanted o (yielded ops a.tmps)=true) (v:Value) (hrun:∀ K:Act→World→Prop,K (a.put o.dst v) w→Oper.wp prog o a w K Q)
  (h:wpList prog ops Q rest (a.put o.dst v) w):wpList prog ops Q (o :: rest) a w :=
 wpList_step fun K hK=>by rw [if_pos hw];exact hrun K (hK _ _ h)
theorem setRow_size (w:World) (g:Nat) (cs:Array Value):(w.setRow g cs).heap.size=w.heap.size:=by
 unfold World.setRow;simp
theorem size_put (w:World) (o:Obj) (g:Nat) (cs:Array Value):((w.alloc o).setRow g cs).heap.size=w.heap.size+1:=by
 rw [setRow_size];simp
theorem eoErr_len (k:Int):EoB (eoErr k):=⟨Nat.zero_le _,Nat.zero_le _,Nat.zero_le _,Nat.zero_le _⟩
theorem evF_len {c:Cx} {s:St} {t:ByteArray} (hf:Fit 0 c s) (hl:(fsmF s.e.st t).2.1.length≤30):EoB (evF c s t):=by
 unfold evF;generalize fsmF s.e.st t=R at *;obtain ⟨st,A,cd⟩:=R;dsimp only at hl ⊢;split
 ·have h:=hf.fold A A.length;rw [List.take_length] at h;have l20:∀ F,opOk F=true→F.length≤2000:=fun F hF=>by
   have:=opOk_right hF
   unfold Op.right at this;rw [Bool.and_eq_true] at this;have:=of_decide_eq_true this.1
   omega
  exact ⟨l20 _ h.f1,l20 _ h.f2,Nat.le_trans h.sn (by omega),Nat.le_trans h.tl (by omega)⟩
 ·exact eoErr_len _
theorem hearF_len (e:En) (F1 F2:List Op.Opt) (p:Op.Pk) (now:Int):EoB (hearF e F1 F2 p now):=by
 unfold hearF;split
 ·rename_i h
  obtain ⟨hf,hs,_⟩:=fit0 h.1;have hd:p.data.size≤250:=by
   have:=h.2
   unfold Op.pok at this;exact (of_decide_eq_true this).2.2.2.2
  have hf2:Fit 0 (cxP now p [] (0,[]) nilS nilS) ⟨e,F1,F2,[],[]⟩:=hf.came p h.2 rfl rfl _ _;have key:∀ k,k<16→k≠6→k≠7→EoB (evF (cxP now p [] (0,[]) nilS nilS) ⟨e,F1,F2,[],[]⟩ (evT k)):=fun k hk h6 h7=>evF_len hf2 (fsmAll (c:=cxP now p [] (0,[]) nilS nilS) (evT_at hk) hs.1 hs.2 (fun h=>absurd h h6) (fun h=>absurd h h7)).2
  split
  ·exact eoErr_len _
  unfold hearP;split
  ·split
   ·have hfx:=hf.came p h.2 (oread_ok hd) (ansF_ok e (oread_ok hd)) nilS nilS;by_cases ha:(ansF e (oread p.data).1).1=2
    ·rw [if_pos ha];exact evF_len hfx (fsmAll (i:=6) (c:=cxP now p (oread p.data).1 (ansF e (oread p.data).1) nilS nilS) (evT_at (by decide)) hs.1 hs.2 (fun _=>ha) (fun h=>absurd h (by decide))).2
    ·rw [if_neg ha];exact evF_len hfx (fsmAll (i:=7) (c:=cxP now p (oread p.data).1 (ansF e (oread p.data).1) nilS nilS) (evT_at (by decide)) hs.1 hs.2 (fun h=>absurd h (by decide)) (fun _=>ha)).2
   ·exact eoErr_len _
  split
  ·split
   ·exact key 8 (by decide) (by decide) (by decide)
   ·exact eoErr_len _
  split
  ·split
   ·split
    ·refine evF_len (hf2.asks ?_) (fsmAll (i:=9) (c:=cxP now p [] (0,[]) nilS nilS) (evT_at (by decide)) hs.1 hs.2 (fun h=>absurd h (by decide)) (fun h=>absurd h (by decide))).2;split
     ·exact lessF_ok (cfA_ok hf.ask) _
     ·exact woF_ok (cfA_ok hf.ask) _
    ·exact eoErr_len _
   ·exact eoErr_len _
  split
  ·exact eoErr_len _
  ·apply key
   ·split
    ·decide
    split
    ·decide
    split
    ·split<;>decide
    split<;>decide
   ·split
    ·decide
    split
    ·decide
    split
    ·split<;>decide
    split<;>decide
   ·split
    ·decide
    split
    ·decide
    split
    ·split<;>decide
    split<;>decide
 ·exact eoErr_len _
section
variable {z:World} {N:Nat} {c:Array Value}
end
structure J1 (w:World) (A:Nat) (ca:List Value) (x y:Int) (t:ByteArray) (q:World):Prop where
 a:q.heap[A]?=some (.cells ca.toArray 51)
 p:q.heap[A+1]?=some (.cells #[.int .i64 x,.int .i64 y,.string t] 52)
 low:Below w.heap.size w q
theorem J1.step {w:World} {A:Nat} {ca:List Value} {x y:Int} {t:ByteArray} {q q':World} (h:J1 w A ca x y t q) (hb:Below q.heap.size q q'):J1 w A ca x y t q' :=
 ⟨(hb.block _ (ge.1 h.a).1).trans h.a,(hb.block _ (ge.1 h.p).1).trans h.p,h.low.trans (hb.mono h.low.size)⟩
structure J2 (w:World) (A:Nat) (ca:List Value) (x y:Int) (t:ByteArray) (o:EO) (bw lo1 hi1:Nat) (cw:Array Value) (bx lo2 hi2:Nat) (e:En) (F1 F2:List Op.Opt) (cl:List Value) (q:World):Prop where
 j:J1 w A ca x y t q
 m:q.heap[bw]?=some (.cells cw 42)
 d:AnD o lo1 hi1 cw q
 xx:q.heap[bx]?=some (.cells cl.toArray 29)
 tx:ToX e F1 F2 lo2 hi2 cl q
section
variable {w:World} {A:Nat} {ca:List Value} {x y:Int} {t:ByteArray} {o:EO} {bw lo1 hi1:Nat} {cw:Array Value} {bx lo2 hi2:Nat} {e:En} {F1 F2:List Op.Opt} {cl:List Value} {q q':World} {bg:Nat} {cg:Array Value}
theorem J2.low (h:J2 w A ca x y t o bw lo1 hi1 cw bx lo2 hi2 e F1 F2 cl q):Below w.heap.size w q:=h.j.low
theorem J2.step (h:J2 w A ca x y t o bw lo1 hi1 cw bx lo2 hi2 e F1 F2 cl q) (hb:Below q.heap.size q q'):J2 w A ca x y t o bw lo1 hi1 cw bx lo2 hi2 e F1 F2 cl q' :=
 ⟨h.j.step hb,(hb.block _ (ge.1 h.m).1).trans h.m,h.d.step hb,(hb.block _ (ge.1 h.xx).1).trans h.xx,h.tx.step hb⟩
structure J3 (w:World) (A:Nat) (ca:List Value) (x y:Int) (t:ByteArray) (o:EO) (bw lo1 hi1:Nat) (cw:Array Value) (bg:Nat) (cg:Array Value) (q:World):Prop where
 j:J1 w A ca x y t q
 m:q.heap[bw]?=some (.cells cw 42)
 d:AnD o lo1 hi1 cw q
 g:q.heap[bg]?=some (.cells cg 42)
 k:MkD o cg q
theorem J3.low (h:J3 w A ca x y t o bw lo1 hi1 cw bg cg q):Below w.heap.size w q:=h.j.low
theorem J3.step (h:J3 w A ca x y t o bw lo1 hi1 cw bg cg q) (hb:Below q.heap.size q q'):J3 w A ca x y t o bw lo1 hi1 cw bg cg q' :=
 ⟨h.j.step hb,(hb.block _ (ge.1 h.m).1).trans h.m,h.d.step hb,(hb.block _ (ge.1 h.g).1).trans h.g,h.k.step hb⟩
end
end Go.Proofs.YtahpjlbaagkdoaaGreatDoor
