/- WkH -/
import Derived.Test.YtjdgiimfpkideaaGreatDoorS27
import Derived.Test.YtjdgiimfpkideaaGreatDoorS28
set_option maxHeartbeats 8000000
set_option maxRecDepth 100000
namespace Go.Proofs.YtjdgiimfpkideaaGreatDoor
open Go.RowKit Go.Proofs.Tryz
def nP:List ByteArray:=[mO,mP,mQ,bP,bQ,bL]
theorem sH:((List.range 6).all fun i=>(List.range 10).all fun k=>(cU (dE i k)).all fun a=>nP.any fun b=>a.data.toList == b.data.toList)=true:=by kernel_rfl
theorem dh {i:Nat} {t:ByteArray} (hi:i<6) (ht:ba[i]?=some t) {st:Int} (h0:0≤st) (h9:st≤9):(∀ a ∈ (bO st t).2.1,a ∈ nP)∧(bO st t).2.1.length≤30:=by
 obtain ⟨k,rfl⟩:∃ k:Nat,st=(k:Int):=⟨st.toNat,by omega⟩;have hk:k<10:=by omega
 obtain ⟨e,⟨_,hl⟩,_⟩:=iO ht hk;rw [e];split
 ·exact ⟨fun a ha=>by simp at ha,by simp⟩
 ·refine ⟨fun a ha=>?_,hl⟩;have h:=List.all_eq_true.1 (List.all_eq_true.1 (List.all_eq_true.1 sH i (List.mem_range.2 hi)) k (List.mem_range.2 hk)) a ha;obtain ⟨b,hb,e⟩:=List.any_eq_true.1 h;have e2:a=b:=by
   obtain ⟨⟨l⟩⟩:=a;obtain ⟨⟨m⟩⟩:=b;have:l=m:=by simpa using e
   rw [this]
  exact e2 ▸ hb
theorem jT (c:Cx) (a:ByteArray) (h:a ∈ nP):nM 99 72 c a:=by
 simp only [nP,List.mem_cons,List.not_mem_nil,or_false] at h;intro w0 w1 B s v1 v2 vs vt q n hL hf hn;rcases h with rfl | rfl | rfl | rfl | rfl | rfl
 ·exact wY hL
 ·exact xe hL hf hn
 ·exact wZ hL hf hn
 ·exact w_ hL hf hn
 ·exact xb hL hf hn
 ·exact xd hL hf hn
theorem ky {e:En} {F1 F2:List Op.Opt} {now:Int} (h:(dJ e F1 F2 && al 0 1000000000 now)=true):Fit 0 (bY now) ⟨e,F1,F2,[],[]⟩∧(0≤e.st∧e.st≤9)∧-1≤e.du:=by
 simp only [dJ,al,Bool.and_eq_true,decide_eq_true_eq] at h;obtain ⟨⟨h1,h2,h3,h4,h5,h6,h7,h8,h9,_⟩,h10⟩:=h;have hdu:-1≤e.du:=by
  split at h9
  ·simp only [Bool.and_eq_true,decide_eq_true_eq] at h9;omega
  ·have:e.du=-1:=by simpa using h9
   omega
 exact ⟨⟨h1,h2,h5,h4,h6,h10,h7,h8,zD _,zD _,rfl,rfl,Nat.zero_le _,hdu⟩,h3,hdu⟩
def dq (e:En) (F1 F2:List Op.Opt) (now:Int):EO :=
 if (dJ e F1 F2 && al 0 1000000000 now)=true then
  if e.du<0∨now<e.du then bA 8
  else if 0<e.tr then bj (bY now) ⟨e,F1,F2,[],[]⟩ ⟨#[84,79,43]⟩ else bj (bY now) ⟨e,F1,F2,[],[]⟩ ⟨#[84,79,45]⟩
 else bA 1
theorem EvA.up {w W q:World} {X:Nat} {o:EO} {cs:Array Value} (h:EvA W o (.returned (.agg cs)) q) (hb:Below w.heap.size w W) (hX:W.heap[X]?=some (.cells bk 74)) (hXw:w.heap.size≤X) :
  cs.size=33∧cs.all (·.oneCell')=true∧q.heap[X]?=some (.cells bk 74)∧EvA w o (.returned (.agg cs)) (q.setRow X cs):=by
 obtain ⟨v1,v2,vs,vt,e,o1,o2,os,ot,ap,lo⟩:=h;have e':cs=aC o.e v1 v2 vs vt o.cd:=by injection e with e;injection e
 subst e';have hX':q.heap[X]?=some (.cells bk 74):=(lo.block X (ge.1 hX).1).trans hX;obtain ⟨a1,p1,e1⟩:=af o1;obtain ⟨a2,p2,e2⟩:=af o2;obtain ⟨a3,p3,e3⟩:=af os;obtain ⟨a4,p4,e4⟩:=af ot;refine ⟨rfl,?_,hX',v1,v2,vs,vt,rfl,aE (az o1 hX' (by decide)) hb.size,aE (az o2 hX' (by decide)) hb.size,aE (az os hX' (by decide)) hb.size,aE (az ot hX' (by decide)) hb.size,ap,?_⟩
 ·rw [e1,e2,e3,e4];exact aG _ _ _ _ _ _ _ _ _ _ _ _ _ _
 ·exact am (hb.trans (lo.mono hb.size)) hXw _
theorem qk (e:En) (x1 x2:Option Addr) (y1 y2:Nat) (F1 F2:List Op.Opt) (now:Int) (w:World) (l1:F1.length≤1048576) (l2:F2.length≤1048576) (h1:HoldsO w (.slice x1 F1.length y1) F1) (h2:HoldsO w (.slice x2 F2.length y2) F2) :
  Calls prog 55 #[.agg (aA e (.slice x1 F1.length y1) (.slice x2 F2.length y2)),.int .i64 now] w fun r w'=>EvA w (dq e F1 F2 now) r w':=by
 have CB:=aa fun W (hb:Below w.heap.size w W)=>mU e x1 x2 y1 y2 F1 F2 now W l1 l2 (h1.below hb rfl) (h2.below hb rfl)
 clear h1 h2;have HF:=aa (ky (e:=e) (F1:=F1) (F2:=F2) (now:=now));obtain ⟨_,hA,hX,hb⟩:=br w (.cells (aA e (.slice x1 F1.length y1) (.slice x2 F2.length y2)) 32) (.cells bk 74);obtain ⟨A,eA⟩:∃ A,w.heap.size=A:=⟨_,rfl⟩;have hXw:w.heap.size≤A+1:=by omega
 rw [eA] at hA hX;have H0:=aa (zA hA (zA hX hb));clear hA hX hb;unfold dq;generalize (dJ e F1 F2 && al 0 1000000000 now)=ok at *;obtain ⟨n1,e1⟩:∃ n,F1.length=n:=⟨_,rfl⟩;obtain ⟨n2,e2⟩:∃ n,F2.length=n:=⟨_,rfl⟩;rw [e1] at CB H0 ⊢;rw [e2] at CB H0 ⊢;go_enter func55,ntmps55
 go_upto_region 1 with fail
 refine ab (fun z=>z.heap[A]?=some (.cells (aA e (.slice x1 n1 y1) (.slice x2 n2 y2)) 32)∧z.heap[A+1]?=some (.cells bk 74)∧Below w.heap.size w z) ?_ ?_
 ·exact uh H0
 clear H0;rintro z hz;have HZ:=aa hz;clear hz
 go_wp2_with (first
  | (refine wpList_load_row rfl 32 (.tmp 2) rfl A rfl 32 (aA e (.slice x1 n1 y1) (.slice x2 n2 y2)) (0,0) _ (uh HZ).1 underlying32 rfl aL ?_))
 refine (uh CB _ (uh HZ).2.2).mono ?_;rintro r z1 ⟨B,v1,v2,rfl,hL⟩;have hl:=hL.low;have hA1:=(hl.block A (ge.1 (uh HZ).1).1).trans (uh HZ).1;have hX1:=(hl.block (A+1) (ge.1 (uh HZ).2.1).1).trans (uh HZ).2.1;have H1:=aa (zA hA1 (zA hX1 ((uh HZ).2.2.trans (hl.mono (uh HZ).2.2.size))));have HL:=aa hL;have c13:z1.cell? ⟨A,13,none⟩=some (.int .i64 e.tr):=by rw [cr hA1];rfl
 have c14:z1.cell? ⟨A,14,none⟩=some (.int .i64 e.du):=by rw [cr hA1];rfl
 clear hL hl hA1 hX1 CB;cases ok
 ·go_wp2_with (first
   | (refine wpList_buildTo rfl 74 _ rfl (some 15) rfl (aC ag (.slice none 0 0) (.slice none 0 0) (.slice none 0 0) (.slice none 0 0) 1) (by as_aux_lemma=>kernel_rfl) ?_)
   | (refine wpList_store_rowTo rfl 74 (.tmp 4) (.tmp 15) rfl rfl (A+1) (aC ag (.slice none 0 0) (.slice none 0 0) (.slice none 0 0) (.slice none 0 0) 1) rfl rfl 74 bk (uh H1).2.1 aw rfl (aG _ _ _ _ _ _ _ _ _ _ _ _ _ _) ?_))
  refine bodyPost_ret (v:=.agg (aC ag (.slice none 0 0) (.slice none 0 0) (.slice none 0 0) (.slice none 0 0) 1)) (by simp [results,results55,asAddr,ay (setRow_heap z1 (A+1) _ (aC ag (.slice none 0 0) (.slice none 0 0) (.slice none 0 0) (.slice none 0 0) 1) _ _ (uh H1).2.1)]) rfl ?_;exact bE (am (uh H1).2.2 hXw _) 1
 ·replace HF:=aa (uh HF rfl);by_cases hd:e.du<0∨now<e.du
  ·by_cases hd0:e.du<0
   ·go_wp2_with (first
     | (refine wpList_buildTo rfl 74 _ rfl (some 25) rfl (aC ag (.slice none 0 0) (.slice none 0 0) (.slice none 0 0) (.slice none 0 0) 8) (by as_aux_lemma=>kernel_rfl) ?_)
     | (refine wpList_store_rowTo rfl 74 (.tmp 4) (.tmp 25) rfl rfl (A+1) (aC ag (.slice none 0 0) (.slice none 0 0) (.slice none 0 0) (.slice none 0 0) 8) rfl rfl 74 bk (uh H1).2.1 aw rfl (aG _ _ _ _ _ _ _ _ _ _ _ _ _ _) ?_))
    refine bodyPost_ret (v:=.agg (aC ag (.slice none 0 0) (.slice none 0 0) (.slice none 0 0) (.slice none 0 0) 8)) (by simp [results,results55,asAddr,ay (setRow_heap z1 (A+1) _ (aC ag (.slice none 0 0) (.slice none 0 0) (.slice none 0 0) (.slice none 0 0) 8) _ _ (uh H1).2.1)]) rfl ?_;exact bE (am (uh H1).2.2 hXw _) 8
   ·have hd1:now<e.du:=hd.resolve_left hd0
    go_wp2_with (first
     | (refine wpList_buildTo rfl 74 _ rfl (some 25) rfl (aC ag (.slice none 0 0) (.slice none 0 0) (.slice none 0 0) (.slice none 0 0) 8) (by as_aux_lemma=>kernel_rfl) ?_)
     | (refine wpList_store_rowTo rfl 74 (.tmp 4) (.tmp 25) rfl rfl (A+1) (aC ag (.slice none 0 0) (.slice none 0 0) (.slice none 0 0) (.slice none 0 0) 8) rfl rfl 74 bk (uh H1).2.1 aw rfl (aG _ _ _ _ _ _ _ _ _ _ _ _ _ _) ?_))
    refine bodyPost_ret (v:=.agg (aC ag (.slice none 0 0) (.slice none 0 0) (.slice none 0 0) (.slice none 0 0) 8)) (by simp [results,results55,asAddr,ay (setRow_heap z1 (A+1) _ (aC ag (.slice none 0 0) (.slice none 0 0) (.slice none 0 0) (.slice none 0 0) 8) _ _ (uh H1).2.1)]) rfl ?_;exact bE (am (uh H1).2.2 hXw _) 8
  ·have hd0:¬ (e.du<0):=fun h=>hd (Or.inl h)
   have hd1:¬ (now<e.du):=fun h=>hd (Or.inr h)
   by_cases ht:0<e.tr
   ·have hE0:=cR z z1 B (bY now) ⟨e,F1,F2,[],[]⟩ v1 v2 z1 (uh HL) rfl rfl (uh HF).1 ⟨#[84,79,43]⟩ (by decide) (fun a ha=>jT _ a ((dh (i:=4) (by decide) rfl (uh HF).2.1.1 (uh HF).2.1.2).1 a ha)) (dh (i:=4) (by decide) rfl (uh HF).2.1.1 (uh HF).2.1.2).2;have CE:=aa hE0;clear hE0;go_wp2_with fail
    refine (uh CE).mono ?_;rintro r z2 ⟨u1,u2,us,ut,rfl,hE'⟩;have hE:EvA z (bj (bY now) ⟨e,F1,F2,[],[]⟩ ⟨#[84,79,43]⟩) (.returned (.agg (aC (bj (bY now) ⟨e,F1,F2,[],[]⟩ ⟨#[84,79,43]⟩).e u1 u2 us ut (bj (bY now) ⟨e,F1,F2,[],[]⟩ ⟨#[84,79,43]⟩).cd))) z2:=⟨u1,u2,us,ut,rfl,hE'⟩;clear hE';generalize aC (bj (bY now) ⟨e,F1,F2,[],[]⟩ ⟨#[84,79,43]⟩).e u1 u2 us ut (bj (bY now) ⟨e,F1,F2,[],[]⟩ ⟨#[84,79,43]⟩).cd=cs at *;obtain ⟨hsz,hall,hX2,hEv⟩:=hE.up (uh HZ).2.2 (uh HZ).2.1 hXw;have HE2:=aa (zA hX2 hEv);clear hE hX2 hEv
    go_wp2_with (first
     | (refine wpList_store_rowTo rfl 74 (.tmp 4) (.tmp 30) rfl rfl (A+1) cs rfl rfl 74 bk (uh HE2).1 (by rw [hsz];exact aw) (by rw [hsz];rfl) hall ?_))
    refine bodyPost_ret (v:=.agg cs) (by simp [results,results55,asAddr,ay (setRow_heap z2 (A+1) _ cs _ _ (uh HE2).1) hsz]) rfl ?_;exact (uh HE2).2
   ·have hE0:=cR z z1 B (bY now) ⟨e,F1,F2,[],[]⟩ v1 v2 z1 (uh HL) rfl rfl (uh HF).1 ⟨#[84,79,45]⟩ (by decide) (fun a ha=>jT _ a ((dh (i:=5) (by decide) rfl (uh HF).2.1.1 (uh HF).2.1.2).1 a ha)) (dh (i:=5) (by decide) rfl (uh HF).2.1.1 (uh HF).2.1.2).2;have CE:=aa hE0;clear hE0;go_wp2_with fail
    refine (uh CE).mono ?_;rintro r z2 ⟨u1,u2,us,ut,rfl,hE'⟩;have hE:EvA z (bj (bY now) ⟨e,F1,F2,[],[]⟩ ⟨#[84,79,45]⟩) (.returned (.agg (aC (bj (bY now) ⟨e,F1,F2,[],[]⟩ ⟨#[84,79,45]⟩).e u1 u2 us ut (bj (bY now) ⟨e,F1,F2,[],[]⟩ ⟨#[84,79,45]⟩).cd))) z2:=⟨u1,u2,us,ut,rfl,hE'⟩;clear hE';generalize aC (bj (bY now) ⟨e,F1,F2,[],[]⟩ ⟨#[84,79,45]⟩).e u1 u2 us ut (bj (bY now) ⟨e,F1,F2,[],[]⟩ ⟨#[84,79,45]⟩).cd=cs at *;obtain ⟨hsz,hall,hX2,hEv⟩:=hE.up (uh HZ).2.2 (uh HZ).2.1 hXw;have HE2:=aa (zA hX2 hEv);clear hE hX2 hEv
    go_wp2_with (first
     | (refine wpList_store_rowTo rfl 74 (.tmp 4) (.tmp 32) rfl rfl (A+1) cs rfl rfl 74 bk (uh HE2).1 (by rw [hsz];exact aw) (by rw [hsz];rfl) hall ?_))
    refine bodyPost_ret (v:=.agg cs) (by simp [results,results55,asAddr,ay (setRow_heap z2 (A+1) _ cs _ _ (uh HE2).1) hsz]) rfl ?_;exact (uh HE2).2
end Go.Proofs.YtjdgiimfpkideaaGreatDoor
