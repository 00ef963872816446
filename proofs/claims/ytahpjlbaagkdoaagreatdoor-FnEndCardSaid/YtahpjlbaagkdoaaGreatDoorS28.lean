/- HrT WkN WkO -/
import Derived.Test.YtahpjlbaagkdoaaGreatDoorS27
set_option maxHeartbeats 16000000
set_option maxRecDepth 100000
set_option linter.unusedSimpArgs false
namespace Go.Proofs.YtahpjlbaagkdoaaGreatDoor
open Go.RowKit Go.Proofs.Tryz
theorem woK_ok {x:Cf} (k:Int) (h:okC x=true):okC (woK k x)=true:=by
 unfold okC cfgOk at h ⊢;simp only [within,Bool.and_eq_true,decide_eq_true_eq] at h ⊢;unfold woK;split
 ·dsimp only;omega
 split
 ·dsimp only;omega
 split
 ·dsimp only;omega
 split
 ·exact h
 split
 ·exact h
 split
 ·exact h
 ·exact h
theorem woF_ok {x:Cf} (h:okC x=true) (F:List Op.Opt):okC (woF x F)=true:=by
 unfold woF;induction F generalizing x with
 | nil=>exact h
 | cons o F ih=>exact ih (woK_ok _ h)
def TakeA (w0 w1:World) (B:Nat) (now:Int) (p:Op.Pk) (e:En) (F1 F2:List Op.Opt) (v1 v2:Value) (r:Ending) (q':World):Prop :=
 ∃ (c':Cx) (e':En) (k:Nat) (cd:Int),r=.returned (.tuple #[.int .i64 (k:Int),.int .i64 cd])∧Lay 83 w0 w1 B c' ⟨e',F1,F2,[],[]⟩ v1 v2 nilS nilS q' ∧
  (cd=0→hearP now p e F1 F2=evF c' ⟨e',F1,F2,[],[]⟩ (evT k)∧k<16∧Fit 0 c' ⟨e',F1,F2,[],[]⟩∧(k=6→c'.ac=2)∧(k=7→c'.ac≠2)∧e'.st=e.st)∧(cd≠0→hearP now p e F1 F2=eoErr cd)
theorem iTake {w0 w1:World} {B:Nat} {now:Int} {p:Op.Pk} {e:En} {F1 F2:List Op.Opt} {v1 v2:Value} {q:World} (h:Lay 83 w0 w1 B (cxP now p [] (0,[]) nilS nilS) ⟨e,F1,F2,[],[]⟩ v1 v2 nilS nilS q) (hf:Fit 0 (cx0 now) ⟨e,F1,F2,[],[]⟩) (hp:Op.pok p=true) (hE:Et q) :
  Calls prog 45 #[.pointer (some ⟨B,0,none⟩)] q fun r q'=>TakeA w0 w1 B now p e F1 F2 v1 v2 r q':=by
 have hs:p.data.size≤250:=by
  have:=hp
  unfold Op.pok at this;exact (of_decide_eq_true this).2.2.2.2
 have hf2:Fit 0 (cxP now p [] (0,[]) nilS nilS) ⟨e,F1,F2,[],[]⟩:=hf.came p hp rfl rfl _ _;have c31:q.cell? ⟨B,31,none⟩=some (.int .i64 p.code):=h.cell (i:=31) rfl;have HF:=hide (And.intro hf (And.intro hf2 hp));have HL:=hide h;clear hf hf2 hp;by_cases h1:p.code=1
 ·rw [h1] at c31;by_cases h0:(oread p.data).2=0
  ·have C:Hid (Calls prog 91 #[.pointer (some ⟨B,0,none⟩)] q fun r q'=>∃ vh va,Lay 83 w0 w1 B (cxP now p (oread p.data).1 (ansF e (oread p.data).1) vh va) ⟨e,F1,F2,[],[]⟩ v1 v2 nilS nilS q'∧r=.returned (.tuple #[.int .i64 (if (ansF e (oread p.data).1).1=2 then 6 else 7),.int .i64 0])):=hide (iReqYes h hs hE h0);clear h hE;have hfr:=fun vh va=>(uh HF).1.came p (uh HF).2.2 (oread_ok hs) (ansF_ok e (oread_ok hs)) vh va
   have HH:Hid (hearP now p e F1 F2=evF (cxP now p (oread p.data).1 (ansF e (oread p.data).1) nilS nilS) ⟨e,F1,F2,[],[]⟩ (evT (if (ansF e (oread p.data).1).1=2 then 6 else 7))):=hide (by unfold hearP;rw [if_pos h1,if_pos h0]);have HF2:=hide hfr;clear hfr h0 h1 hs;by_cases ha:(ansF e (oread p.data).1).1=2
   ·rw [if_pos ha] at C HH;have HA:=hide ha;clear ha;go_enter func45,ntmps45
    go_wp2_with fail
    refine (uh C).mono ?_;rintro r z1 ⟨vh,va,hl,rfl⟩;have H1:=hide hl;clear hl C;go_wp2
    refine bodyPost_ret (v:=.tuple #[.int .i64 6,.int .i64 0]) (by simp [results,results45,go_sem]) rfl ?_;exact ⟨_,_,6,0,rfl,uh H1,fun _=>⟨uh HH,by decide,uh HF2 vh va,fun _=>uh HA,fun h=>absurd h (by decide),rfl⟩,fun h=>absurd rfl h⟩
   ·rw [if_neg ha] at C HH;have HA:=hide ha;clear ha;go_enter func45,ntmps45
    go_wp2_with fail
    refine (uh C).mono ?_;rintro r z1 ⟨vh,va,hl,rfl⟩;have H1:=hide hl;clear hl C;go_wp2
    refine bodyPost_ret (v:=.tuple #[.int .i64 7,.int .i64 0]) (by simp [results,results45,go_sem]) rfl ?_;exact ⟨_,_,7,0,rfl,uh H1,fun _=>⟨uh HH,by decide,uh HF2 vh va,fun h=>absurd h (by decide),fun _=>uh HA,rfl⟩,fun h=>absurd rfl h⟩
  ·have C:Hid (Calls prog 91 #[.pointer (some ⟨B,0,none⟩)] q fun r q'=>Lay 83 w0 w1 B (cxP now p [] (0,[]) nilS nilS) ⟨e,F1,F2,[],[]⟩ v1 v2 nilS nilS q'∧r=.returned (.tuple #[.int .i64 0,.int .i64 (oread p.data).2])):=hide (iReqNo h hs hE h0);have HH:Hid (hearP now p e F1 F2=eoErr (oread p.data).2):=hide (by unfold hearP;rw [if_pos h1,if_neg h0]);have HZ:=hide h0;clear h hE h0 h1 hs;go_enter func45,ntmps45
   go_wp2_with fail
   refine (uh C).mono ?_;rintro r z1 ⟨hl,rfl⟩;have H1:=hide hl;clear hl C;go_wp2
   refine bodyPost_ret (v:=.tuple #[.int .i64 0,.int .i64 (oread p.data).2]) (by simp [results,results45,go_sem]) rfl ?_;exact ⟨_,_,0,_,rfl,uh H1,fun h=>absurd h (uh HZ),fun _=>uh HH⟩
 by_cases h2:p.code=2
 ·rw [h2] at c31;have C:=hide (iTakeAck h (uh HF).2.1);clear h hE hs;by_cases ha:p.id=e.id∧p.data=txt (Op.bytes F1)
  ·have HH:Hid (hearP now p e F1 F2=evF (cxP now p [] (0,[]) nilS nilS) ⟨e,F1,F2,[],[]⟩ (evT 8)):=hide (by unfold hearP;rw [if_neg h1,if_pos h2,if_pos ha]);have ha2:(cxP now p [] (0,[]) nilS nilS).ci=e.id∧(cxP now p [] (0,[]) nilS nilS).cd=txt (Op.bytes F1):=ha;rw [if_pos ha2,if_pos ha2] at C;clear ha ha2 h1 h2;go_enter func45,ntmps45
   go_wp2_with fail
   refine (uh C).mono ?_;rintro r z1 ⟨hl,rfl⟩;have H1:=hide hl;clear hl C;go_wp2
   refine bodyPost_ret (v:=.tuple #[.int .i64 8,.int .i64 0]) (by simp [results,results45,go_sem]) rfl ?_;exact ⟨_,_,8,0,rfl,uh H1,fun _=>⟨uh HH,by decide,(uh HF).2.1,fun h=>absurd h (by decide),fun h=>absurd h (by decide),rfl⟩,fun h=>absurd rfl h⟩
  ·have HH:Hid (hearP now p e F1 F2=eoErr 8):=hide (by unfold hearP;rw [if_neg h1,if_pos h2,if_neg ha]);have ha2:¬ ((cxP now p [] (0,[]) nilS nilS).ci=e.id∧(cxP now p [] (0,[]) nilS nilS).cd=txt (Op.bytes F1)):=ha;rw [if_neg ha2,if_neg ha2] at C;clear ha ha2 h1 h2;go_enter func45,ntmps45
   go_wp2_with fail
   refine (uh C).mono ?_;rintro r z1 ⟨hl,rfl⟩;have H1:=hide hl;clear hl C;go_wp2
   refine bodyPost_ret (v:=.tuple #[.int .i64 0,.int .i64 8]) (by simp [results,results45,go_sem]) rfl ?_;exact ⟨_,_,0,8,rfl,uh H1,fun h=>absurd h (by decide),fun _=>uh HH⟩
 by_cases h3:p.code=3
 ·rw [h3] at c31;by_cases hi:p.id=e.id
  ·by_cases h0:(oread p.data).2=0
   ·have C:=hide (iRefYes h hs hE hi (uh HF).1.ask h0);have HH:Hid (hearP now p e F1 F2=evF (cxP now p [] (0,[]) nilS nilS) ⟨setA e (lessF (cfA e) (oread p.data).1),F1,F2,[],[]⟩ (evT 9)):=hide (by unfold hearP;rw [if_neg h1,if_neg h2,if_pos (Or.inl h3),if_pos hi,if_pos h0,if_pos h3]);have e9:(cxP now p [] (0,[]) nilS nilS).cc=p.code:=rfl;rw [e9,if_pos h3] at C;have HO:Hid (Fit 0 (cxP now p [] (0,[]) nilS nilS) ⟨setA e (lessF (cfA e) (oread p.data).1),F1,F2,[],[]⟩):=hide ((uh HF).2.1.asks (lessF_ok (cfA_ok (uh HF).1.ask) _));clear h hE hs h0 hi h1 h2 h3 e9;go_enter func45,ntmps45
    go_wp2_with fail
    refine (uh C).mono ?_;rintro r z1 ⟨hl,rfl⟩;have H1:=hide hl;clear hl C;go_wp2
    refine bodyPost_ret (v:=.tuple #[.int .i64 9,.int .i64 0]) (by simp [results,results45,go_sem]) rfl ?_;exact ⟨_,_,9,0,rfl,uh H1,fun _=>⟨uh HH,by decide,uh HO,fun h=>absurd h (by decide),fun h=>absurd h (by decide),rfl⟩,fun h=>absurd rfl h⟩
   ·have C:Hid (Calls prog 93 #[.pointer (some ⟨B,0,none⟩)] q fun r q'=>Lay 83 w0 w1 B (cxP now p [] (0,[]) nilS nilS) ⟨e,F1,F2,[],[]⟩ v1 v2 nilS nilS q'∧r=.returned (.tuple #[.int .i64 0,.int .i64 (oread p.data).2])):=hide (iRefNo h hs hE hi h0);have HH:Hid (hearP now p e F1 F2=eoErr (oread p.data).2):=hide (by unfold hearP;rw [if_neg h1,if_neg h2,if_pos (Or.inl h3),if_pos hi,if_neg h0]);have HZ:=hide h0;clear h hE hs h0 hi h1 h2 h3;go_enter func45,ntmps45
    go_wp2_with fail
    refine (uh C).mono ?_;rintro r z1 ⟨hl,rfl⟩;have H1:=hide hl;clear hl C;go_wp2
    refine bodyPost_ret (v:=.tuple #[.int .i64 0,.int .i64 (oread p.data).2]) (by simp [results,results45,go_sem]) rfl ?_;exact ⟨_,_,0,_,rfl,uh H1,fun h=>absurd h (uh HZ),fun _=>uh HH⟩
  ·have C:=hide (iRefId h hi);have HH:Hid (hearP now p e F1 F2=eoErr 8):=hide (by unfold hearP;rw [if_neg h1,if_neg h2,if_pos (Or.inl h3),if_neg hi]);clear h hE hs hi h1 h2 h3;go_enter func45,ntmps45
   go_wp2_with fail
   refine (uh C).mono ?_;rintro r z1 ⟨hl,rfl⟩;have H1:=hide hl;clear hl C;go_wp2
   refine bodyPost_ret (v:=.tuple #[.int .i64 0,.int .i64 8]) (by simp [results,results45,go_sem]) rfl ?_;exact ⟨_,_,0,8,rfl,uh H1,fun h=>absurd h (by decide),fun _=>uh HH⟩
 by_cases h4:p.code=4
 ·rw [h4] at c31;by_cases hi:p.id=e.id
  ·by_cases h0:(oread p.data).2=0
   ·have C:=hide (iRefYes h hs hE hi (uh HF).1.ask h0);have HH:Hid (hearP now p e F1 F2=evF (cxP now p [] (0,[]) nilS nilS) ⟨setA e (woF (cfA e) (oread p.data).1),F1,F2,[],[]⟩ (evT 9)):=hide (by unfold hearP;rw [if_neg h1,if_neg h2,if_pos (Or.inr h4),if_pos hi,if_pos h0,if_neg h3]);have e9:(cxP now p [] (0,[]) nilS nilS).cc=p.code:=rfl;rw [e9,if_neg h3] at C;have HO:Hid (Fit 0 (cxP now p [] (0,[]) nilS nilS) ⟨setA e (woF (cfA e) (oread p.data).1),F1,F2,[],[]⟩):=hide ((uh HF).2.1.asks (woF_ok (cfA_ok (uh HF).1.ask) _));clear h hE hs h0 hi h1 h2 h3 h4 e9;go_enter func45,ntmps45
    go_wp2_with fail
    refine (uh C).mono ?_;rintro r z1 ⟨hl,rfl⟩;have H1:=hide hl;clear hl C;go_wp2
    refine bodyPost_ret (v:=.tuple #[.int .i64 9,.int .i64 0]) (by simp [results,results45,go_sem]) rfl ?_;exact ⟨_,_,9,0,rfl,uh H1,fun _=>⟨uh HH,by decide,uh HO,fun h=>absurd h (by decide),fun h=>absurd h (by decide),rfl⟩,fun h=>absurd rfl h⟩
   ·have C:Hid (Calls prog 93 #[.pointer (some ⟨B,0,none⟩)] q fun r q'=>Lay 83 w0 w1 B (cxP now p [] (0,[]) nilS nilS) ⟨e,F1,F2,[],[]⟩ v1 v2 nilS nilS q'∧r=.returned (.tuple #[.int .i64 0,.int .i64 (oread p.data).2])):=hide (iRefNo h hs hE hi h0);have HH:Hid (hearP now p e F1 F2=eoErr (oread p.data).2):=hide (by unfold hearP;rw [if_neg h1,if_neg h2,if_pos (Or.inr h4),if_pos hi,if_neg h0]);have HZ:=hide h0;clear h hE hs h0 hi h1 h2 h3 h4;go_enter func45,ntmps45
    go_wp2_with fail
    refine (uh C).mono ?_;rintro r z1 ⟨hl,rfl⟩;have H1:=hide hl;clear hl C;go_wp2
    refine bodyPost_ret (v:=.tuple #[.int .i64 0,.int .i64 (oread p.data).2]) (by simp [results,results45,go_sem]) rfl ?_;exact ⟨_,_,0,_,rfl,uh H1,fun h=>absurd h (uh HZ),fun _=>uh HH⟩
  ·have C:=hide (iRefId h hi);have HH:Hid (hearP now p e F1 F2=eoErr 8):=hide (by unfold hearP;rw [if_neg h1,if_neg h2,if_pos (Or.inr h4),if_neg hi]);clear h hE hs hi h1 h2 h3 h4;go_enter func45,ntmps45
   go_wp2_with fail
   refine (uh C).mono ?_;rintro r z1 ⟨hl,rfl⟩;have H1:=hide hl;clear hl C;go_wp2
   refine bodyPost_ret (v:=.tuple #[.int .i64 0,.int .i64 8]) (by simp [results,results45,go_sem]) rfl ?_;exact ⟨_,_,0,8,rfl,uh H1,fun h=>absurd h (by decide),fun _=>uh HH⟩
 have h34:¬ (p.code=3∨p.code=4):=fun h=>h.elim h3 h4
 by_cases h5:p.code=5
 ·rw [h5] at c31;have HH:Hid (hearP now p e F1 F2=evF (cxP now p [] (0,[]) nilS nilS) ⟨e,F1,F2,[],[]⟩ (evT 10)):=hide (by unfold hearP;rw [if_neg h1,if_neg h2,if_neg h34,if_neg (fun h=>absurd (h5.symm.trans h.1) (by decide)),if_pos h5]);clear h hE hs;go_enter func45,ntmps45
  go_wp2
  refine bodyPost_ret (v:=.tuple #[.int .i64 10,.int .i64 0]) (by simp [results,results45,go_sem]) rfl ?_;exact ⟨_,_,10,0,rfl,uh HL,fun _=>⟨uh HH,by decide,(uh HF).2.1,fun h=>absurd h (by decide),fun h=>absurd h (by decide),rfl⟩,fun h=>absurd rfl h⟩
 by_cases h6:p.code=6
 ·rw [h6] at c31;have HH:Hid (hearP now p e F1 F2=evF (cxP now p [] (0,[]) nilS nilS) ⟨e,F1,F2,[],[]⟩ (evT 11)):=hide (by unfold hearP;rw [if_neg h1,if_neg h2,if_neg h34,if_neg (fun h=>absurd (h6.symm.trans h.1) (by decide)),if_neg h5,if_pos h6]);clear h hE hs;go_enter func45,ntmps45
  go_wp2
  refine bodyPost_ret (v:=.tuple #[.int .i64 11,.int .i64 0]) (by simp [results,results45,go_sem]) rfl ?_;exact ⟨_,_,11,0,rfl,uh HL,fun _=>⟨uh HH,by decide,(uh HF).2.1,fun h=>absurd h (by decide),fun h=>absurd h (by decide),rfl⟩,fun h=>absurd rfl h⟩
 by_cases h7:p.code=7
 ·rw [h7] at c31;have C:=hide (iCode h hs);have e9:(cxP now p [] (0,[]) nilS nilS).cd=p.data:=rfl;rw [e9] at C;clear h hE hs e9;by_cases hz:p.data.size=0
  ·have HH:Hid (hearP now p e F1 F2=eoErr 4):=hide (by unfold hearP;rw [if_neg h1,if_neg h2,if_neg h34,if_pos ⟨h7,hz⟩]);rw [if_pos hz,if_pos hz] at C;clear hz h1 h2 h3 h4 h34 h5 h6 h7;go_enter func45,ntmps45
   go_wp2_with fail
   refine (uh C).mono ?_;rintro r z1 ⟨hw,rfl⟩;replace hw:=hw.symm;subst hw;clear C;go_wp2
   refine bodyPost_ret (v:=.tuple #[.int .i64 0,.int .i64 4]) (by simp [results,results45,go_sem]) rfl ?_;exact ⟨_,_,0,4,rfl,uh HL,fun h=>absurd h (by decide),fun _=>uh HH⟩
  ·rw [if_neg hz,if_neg hz] at C;by_cases hh:hardB p.data=true
   ·have HH:Hid (hearP now p e F1 F2=evF (cxP now p [] (0,[]) nilS nilS) ⟨e,F1,F2,[],[]⟩ (evT 14)):=hide (by unfold hearP;rw [if_neg h1,if_neg h2,if_neg h34,if_neg (fun h=>hz h.2),if_neg h5,if_neg h6,if_pos h7,if_pos hh]);rw [if_pos hh] at C;clear hz hh h1 h2 h3 h4 h34 h5 h6 h7;go_enter func45,ntmps45
    go_wp2_with fail
    refine (uh C).mono ?_;rintro r z1 ⟨hw,rfl⟩;replace hw:=hw.symm;subst hw;clear C;go_wp2
    refine bodyPost_ret (v:=.tuple #[.int .i64 14,.int .i64 0]) (by simp [results,results45,go_sem]) rfl ?_;exact ⟨_,_,14,0,rfl,uh HL,fun _=>⟨uh HH,by decide,(uh HF).2.1,fun h=>absurd h (by decide),fun h=>absurd h (by decide),rfl⟩,fun h=>absurd rfl h⟩
   ·have HH:Hid (hearP now p e F1 F2=evF (cxP now p [] (0,[]) nilS nilS) ⟨e,F1,F2,[],[]⟩ (evT 13)):=hide (by unfold hearP;rw [if_neg h1,if_neg h2,if_neg h34,if_neg (fun h=>hz h.2),if_neg h5,if_neg h6,if_pos h7,if_neg hh]);rw [if_neg hh] at C;clear hz hh h1 h2 h3 h4 h34 h5 h6 h7;go_enter func45,ntmps45
    go_wp2_with fail
    refine (uh C).mono ?_;rintro r z1 ⟨hw,rfl⟩;replace hw:=hw.symm;subst hw;clear C;go_wp2
    refine bodyPost_ret (v:=.tuple #[.int .i64 13,.int .i64 0]) (by simp [results,results45,go_sem]) rfl ?_;exact ⟨_,_,13,0,rfl,uh HL,fun _=>⟨uh HH,by decide,(uh HF).2.1,fun h=>absurd h (by decide),fun h=>absurd h (by decide),rfl⟩,fun h=>absurd rfl h⟩
 by_cases h9:p.code=9
 ·rw [h9] at c31;have HH:Hid (hearP now p e F1 F2=evF (cxP now p [] (0,[]) nilS nilS) ⟨e,F1,F2,[],[]⟩ (evT 15)):=hide (by unfold hearP;rw [if_neg h1,if_neg h2,if_neg h34,if_neg (fun h=>absurd (h9.symm.trans h.1) (by decide)),if_neg h5,if_neg h6,if_neg h7,if_pos (Or.inl h9)]);clear h hE hs;go_enter func45,ntmps45
  go_wp2
  refine bodyPost_ret (v:=.tuple #[.int .i64 15,.int .i64 0]) (by simp [results,results45,go_sem]) rfl ?_;exact ⟨_,_,15,0,rfl,uh HL,fun _=>⟨uh HH,by decide,(uh HF).2.1,fun h=>absurd h (by decide),fun h=>absurd h (by decide),rfl⟩,fun h=>absurd rfl h⟩
 by_cases h10:p.code=10
 ·rw [h10] at c31;have HH:Hid (hearP now p e F1 F2=evF (cxP now p [] (0,[]) nilS nilS) ⟨e,F1,F2,[],[]⟩ (evT 15)):=hide (by unfold hearP;rw [if_neg h1,if_neg h2,if_neg h34,if_neg (fun h=>absurd (h10.symm.trans h.1) (by decide)),if_neg h5,if_neg h6,if_neg h7,if_pos (Or.inr (Or.inl h10))]);clear h hE hs;go_enter func45,ntmps45
  go_wp2
  refine bodyPost_ret (v:=.tuple #[.int .i64 15,.int .i64 0]) (by simp [results,results45,go_sem]) rfl ?_;exact ⟨_,_,15,0,rfl,uh HL,fun _=>⟨uh HH,by decide,(uh HF).2.1,fun h=>absurd h (by decide),fun h=>absurd h (by decide),rfl⟩,fun h=>absurd rfl h⟩
 by_cases h11:p.code=11
 ·rw [h11] at c31;have HH:Hid (hearP now p e F1 F2=evF (cxP now p [] (0,[]) nilS nilS) ⟨e,F1,F2,[],[]⟩ (evT 15)):=hide (by unfold hearP;rw [if_neg h1,if_neg h2,if_neg h34,if_neg (fun h=>absurd (h11.symm.trans h.1) (by decide)),if_neg h5,if_neg h6,if_neg h7,if_pos (Or.inr (Or.inr h11))]);clear h hE hs;go_enter func45,ntmps45
  go_wp2
  refine bodyPost_ret (v:=.tuple #[.int .i64 15,.int .i64 0]) (by simp [results,results45,go_sem]) rfl ?_;exact ⟨_,_,15,0,rfl,uh HL,fun _=>⟨uh HH,by decide,(uh HF).2.1,fun h=>absurd h (by decide),fun h=>absurd h (by decide),rfl⟩,fun h=>absurd rfl h⟩
 have HH:Hid (hearP now p e F1 F2=evF (cxP now p [] (0,[]) nilS nilS) ⟨e,F1,F2,[],[]⟩ (evT 12)):=hide (by unfold hearP;rw [if_neg h1,if_neg h2,if_neg h34,if_neg (fun h=>h7 h.1),if_neg h5,if_neg h6,if_neg h7,if_neg (fun h=>h.elim h9 (fun h=>h.elim h10 h11))]);have b1:(p.code == 1)=false:=beq_eq_false_iff_ne.2 h1;have b2:(p.code == 2)=false:=beq_eq_false_iff_ne.2 h2;have b3:(p.code == 3)=false:=beq_eq_false_iff_ne.2 h3;have b4:(p.code == 4)=false:=beq_eq_false_iff_ne.2 h4;have b5:(p.code == 5)=false:=beq_eq_false_iff_ne.2 h5;have b6:(p.code == 6)=false:=beq_eq_false_iff_ne.2 h6;have b7:(p.code == 7)=false:=beq_eq_false_iff_ne.2 h7;have b9:(p.code == 9)=false:=beq_eq_false_iff_ne.2 h9;have b10:(p.code == 10)=false:=beq_eq_false_iff_ne.2 h10;have b11:(p.code == 11)=false:=beq_eq_false_iff_ne.2 h11;clear h hE hs h1 h2 h3 h4 h34 h5 h6 h7 h9 h10 h11;go_enter func45,ntmps45
 go_wp2
 refine bodyPost_ret (v:=.tuple #[.int .i64 12,.int .i64 0]) (by simp [results,results45,go_sem]) rfl ?_;exact ⟨_,_,12,0,rfl,uh HL,fun _=>⟨uh HH,by decide,(uh HF).2.1,fun h=>absurd h (by decide),fun h=>absurd h (by decide),rfl⟩,fun h=>absurd rfl h⟩
theorem own_fresh {w w':World} {b:Nat} {e e':TypeId} {k k':Nat} {v v':Value} {n n':Nat} {xs ys:List Value} (h:w.ownsRow b e k v n xs) (h':w'.ownsRow w.heap.size e' k' v' n' ys):Ap v v':=fun g hg e=>by
 have h1:=(h.lt g hg).2;have h2:=(h'.lt g e).1;omega
theorem iWork (e:En) (x1 x2:Option Addr) (y1 y2:Nat) (F1 F2:List Op.Opt) (now:Int) (w:World) (rg1:Op.right F1=true) (r2:Op.right F2=true) (h1:HoldsO w (.slice x1 F1.length y1) F1) (h2:HoldsO w (.slice x2 F2.length y2) F2) :
  Calls prog 39 #[.agg (enC e (.slice x1 F1.length y1) (.slice x2 F2.length y2)),.int .i64 now] w fun r w'=>∃ B v1 v2,r=.returned (.pointer (some ⟨B,0,none⟩))∧Lay 83 w w' B (cx0 now) ⟨e,F1,F2,[],[]⟩ v1 v2 (.slice none 0 0) (.slice none 0 0) w':=by
 have C1:=hide fun W (hb:Below w.heap.size w W)=>iSame _ F1 W rg1 (h1.below hb rfl)
 have C2:=hide fun W (hb:Below w.heap.size w W)=>iSame _ F2 W r2 (h2.below hb rfl)
 clear h1 h2;obtain ⟨A,eA⟩:∃ A,w.heap.size=A:=⟨_,rfl⟩;have hA:=heap_alloc_new w (.cells (enC e (.slice x1 F1.length y1) (.slice x2 F2.length y2)) 29);have hbA:Below w.heap.size w (w.alloc (.cells (enC e (.slice x1 F1.length y1) (.slice x2 F2.length y2)) 29)):=(Below.refl _ _).alloc (Nat.le_refl _) _;rw [eA] at hA;have H0:=hide (And.intro hA hbA);clear hA hbA;obtain ⟨n1,e1⟩:∃ n,F1.length=n:=⟨_,rfl⟩;obtain ⟨n2,e2⟩:∃ n,F2.length=n:=⟨_,rfl⟩;rw [e1] at C1 H0 ⊢;rw [e2] at C2 H0 ⊢;go_enter func39,ntmps39
 go_upto_region 1 with fail
 refine gen_world (fun z=>z.heap[A]?=some (.cells (enC e (.slice x1 n1 y1) (.slice x2 n2 y2)) 29)∧Below w.heap.size w z) ?_ ?_
 ·exact uh H0
 clear H0;rintro z ⟨za,zl⟩;have hAw:w.heap.size≤z.heap.size:=zl.size;have hAl:A<z.heap.size:=(ge.1 za).1;have c17:z.cell? ⟨A,17,none⟩=some (.slice x1 n1 y1):=by rw [cr za];rfl
 have c18:z.cell? ⟨A,18,none⟩=some (.slice x2 n2 y2):=by rw [cr za];rfl
 have HZ:=hide (And.intro za (zl.trans ((Below.refl z.heap.size z).drew.mono zl.size)));clear za zl;go_cut [5] (fun _ wx=>∃ a1 p1 a2 p2,wx.heap[A]?=some (.cells (enC e (.slice a1 n1 p1) (.slice a2 n2 p2)) 29)∧wx.ownsRow w.heap.size 116 2 (.slice a1 n1 p1) n1 (ocells F1)∧wx.ownsRow w.heap.size 116 2 (.slice a2 n2 p2) n2 (ocells F2)∧Ap (.slice a1 n1 p1) (.slice a2 n2 p2)∧Below w.heap.size w wx)
 case first =>
  refine wp_region_held_drew (S:=fun _=>True) (by kernel_rfl) trivial (fun hHeld=>?_);refine t2 0 ?_;refine t2 3 ?_;refine wpAnyH_ready (rs:=[1,4]) (by kernel_rfl) (by simp) ?_;refine AllReadyH.cons rfl (fun K hK=>?_) (AllReadyH.cons rfl (fun K hK=>?_) (AllReadyH.nil))
  ·have cx:=c17;go_simp;refine ro hK trivial fun _=>?_
   clear hK K;clear cx;refine wpAnyH_ready (rs:=[2,4]) (by kernel_rfl) (by simp) ?_;refine AllReadyH.cons rfl (fun K hK=>?_) (AllReadyH.cons rfl (fun K hK=>?_) (AllReadyH.nil))
   ·go_simp;refine (uh C1 _ (uh HZ).2).mono ?_;rintro r w5 ⟨a1,p1,rfl,ho1,hb5⟩;have q5:=(hb5.block A hAl).trans (uh HZ).1;have d18:w5.cell? ⟨A,18,none⟩=some (.slice x2 n2 y2):=by rw [cr q5];rfl
    have H5:=hide (And.intro q5 (And.intro ho1 ((uh HZ).2.trans (hb5.mono (uh HZ).2.size))));have hs5:w.heap.size≤z.heap.size:=hAw;clear q5 ho1 hb5;go_wp2_with fail
    refine ro hK trivial fun _=>?_
    clear hK K;refine r1 4 rfl (fun K hK=>?_);have cx:=d18;go_simp;refine ro hK trivial fun _=>?_
    clear hK K;clear cx;refine t2 6 ?_;refine r1 5 rfl (fun K hK=>?_);go_simp;refine (uh C2 _ (uh H5).2.2).mono ?_;rintro r w6 ⟨a2,p2,rfl,ho2,hb6⟩;have q6:=(hb6.block A (ge.1 (uh H5).1).1).trans (uh H5).1;have g17:w6.cell? ⟨A,17,none⟩=some (.slice x1 n1 y1):=by rw [cr q6];rfl
    have f17:w6.frozen? ⟨A,17,none⟩=false:=frz q6 17;have r7:=heap_setCell_same w6 A 17 _ _ (.slice a1 n1 p1) q6;have g18:(w6.setCell ⟨A,17,none⟩ (.slice a1 n1 p1)).cell? ⟨A,18,none⟩=some (.slice x2 n2 y2):=by rw [cr r7];rfl
    have f18:(w6.setCell ⟨A,17,none⟩ (.slice a1 n1 p1)).frozen? ⟨A,18,none⟩=false:=frz r7 18;have r8:=heap_setCell_same (w6.setCell ⟨A,17,none⟩ (.slice a1 n1 p1)) A 18 _ _ (.slice a2 n2 p2) r7;have k1:=own_below (uh H5).2.1 hb6;have hap:=own_fresh (uh H5).2.1 ho2;have hlo:=(uh H5).2.2.trans (hb6.mono (uh H5).2.2.size);have n1A:∀ g,(Value.slice a1 n1 p1).ownBlock=some g→g≠A:=fun g hg e=>by have h1:z.heap.size≤g:=(k1.lt g hg).1;omega
    have n2A:∀ g,(Value.slice a2 n2 p2).ownBlock=some g→g≠A:=fun g hg e=>by have h1:=(ho2.lt g hg).1;have h2:=(ge.1 (uh H5).1).1;omega
    have hk:∀ g,g≠A→((w6.setCell ⟨A,17,none⟩ (.slice a1 n1 p1)).setCell ⟨A,18,none⟩ (.slice a2 n2 p2)).heap[g]?=w6.heap[g]?:=fun g hg=>(heap_setCell_other _ _ _ _ hg).trans (heap_setCell_other _ _ _ _ hg)
    have H6:=hide (And.intro (show ((w6.setCell ⟨A,17,none⟩ (.slice a1 n1 p1)).setCell ⟨A,18,none⟩ (.slice a2 n2 p2)).heap[A]?=some (.cells (enC e (.slice a1 n1 p1) (.slice a2 n2 p2)) 29) from r8) (And.intro (own_mono (own_other k1 fun g hg=>hk g (n1A g hg)) hAw) (And.intro (own_mono (own_other ho2 fun g hg=>hk g (n2A g hg)) (uh H5).2.2.size) (And.intro hap ((hlo.setCell (p:=⟨A,17,none⟩) (Nat.le_of_eq eA) (.slice a1 n1 p1)).setCell (p:=⟨A,18,none⟩) (Nat.le_of_eq eA) (.slice a2 n2 p2))))));clear q6 r7 r8 ho2 hb6 k1 hap hlo n1A n2A hk;go_wp2_with fail
    refine ro hK trivial fun _=>?_
    clear hK K;refine r1 7 rfl (fun K hK=>?_);go_simp;refine ro hK trivial fun _=>?_
    clear hK K;refine t2 8 ?_;refine r1 9 rfl (fun K hK=>?_);go_simp;refine hK.out _ _ trivial (fun _=>?_);clear hK K;try simp only [Act.put,List.getElem_toArray,List.getElem_cons_zero,List.getElem_cons_succ]
    refine dn ?_ _;go_wp2_with fail
    go_meet;exact ⟨a1,p1,a2,p2,uh H6⟩
   ·have cx:=c18;go_simp;refine ro hK trivial fun _=>?_
    clear hK K;clear cx;refine r1 2 rfl (fun K hK=>?_);go_simp;refine (uh C1 _ (uh HZ).2).mono ?_;rintro r w5 ⟨a1,p1,rfl,ho1,hb5⟩;have q5:=(hb5.block A hAl).trans (uh HZ).1;have d18:w5.cell? ⟨A,18,none⟩=some (.slice x2 n2 y2):=by rw [cr q5];rfl
    have H5:=hide (And.intro q5 (And.intro ho1 ((uh HZ).2.trans (hb5.mono (uh HZ).2.size))));have hs5:w.heap.size≤z.heap.size:=hAw;clear q5 ho1 hb5;go_wp2_with fail
    refine ro hK trivial fun _=>?_
    clear hK K;refine t2 6 ?_;refine r1 5 rfl (fun K hK=>?_);go_simp;refine (uh C2 _ (uh H5).2.2).mono ?_;rintro r w6 ⟨a2,p2,rfl,ho2,hb6⟩;have q6:=(hb6.block A (ge.1 (uh H5).1).1).trans (uh H5).1;have g17:w6.cell? ⟨A,17,none⟩=some (.slice x1 n1 y1):=by rw [cr q6];rfl
    have f17:w6.frozen? ⟨A,17,none⟩=false:=frz q6 17;have r7:=heap_setCell_same w6 A 17 _ _ (.slice a1 n1 p1) q6;have g18:(w6.setCell ⟨A,17,none⟩ (.slice a1 n1 p1)).cell? ⟨A,18,none⟩=some (.slice x2 n2 y2):=by rw [cr r7];rfl
    have f18:(w6.setCell ⟨A,17,none⟩ (.slice a1 n1 p1)).frozen? ⟨A,18,none⟩=false:=frz r7 18;have r8:=heap_setCell_same (w6.setCell ⟨A,17,none⟩ (.slice a1 n1 p1)) A 18 _ _ (.slice a2 n2 p2) r7;have k1:=own_below (uh H5).2.1 hb6;have hap:=own_fresh (uh H5).2.1 ho2;have hlo:=(uh H5).2.2.trans (hb6.mono (uh H5).2.2.size);have n1A:∀ g,(Value.slice a1 n1 p1).ownBlock=some g→g≠A:=fun g hg e=>by have h1:z.heap.size≤g:=(k1.lt g hg).1;omega
    have n2A:∀ g,(Value.slice a2 n2 p2).ownBlock=some g→g≠A:=fun g hg e=>by have h1:=(ho2.lt g hg).1;have h2:=(ge.1 (uh H5).1).1;omega
    have hk:∀ g,g≠A→((w6.setCell ⟨A,17,none⟩ (.slice a1 n1 p1)).setCell ⟨A,18,none⟩ (.slice a2 n2 p2)).heap[g]?=w6.heap[g]?:=fun g hg=>(heap_setCell_other _ _ _ _ hg).trans (heap_setCell_other _ _ _ _ hg)
    have H6:=hide (And.intro (show ((w6.setCell ⟨A,17,none⟩ (.slice a1 n1 p1)).setCell ⟨A,18,none⟩ (.slice a2 n2 p2)).heap[A]?=some (.cells (enC e (.slice a1 n1 p1) (.slice a2 n2 p2)) 29) from r8) (And.intro (own_mono (own_other k1 fun g hg=>hk g (n1A g hg)) hAw) (And.intro (own_mono (own_other ho2 fun g hg=>hk g (n2A g hg)) (uh H5).2.2.size) (And.intro hap ((hlo.setCell (p:=⟨A,17,none⟩) (Nat.le_of_eq eA) (.slice a1 n1 p1)).setCell (p:=⟨A,18,none⟩) (Nat.le_of_eq eA) (.slice a2 n2 p2))))));clear q6 r7 r8 ho2 hb6 k1 hap hlo n1A n2A hk;go_wp2_with fail
    refine ro hK trivial fun _=>?_
    clear hK K;refine r1 7 rfl (fun K hK=>?_);go_simp;refine ro hK trivial fun _=>?_
    clear hK K;refine t2 8 ?_;refine r1 9 rfl (fun K hK=>?_);go_simp;refine hK.out _ _ trivial (fun _=>?_);clear hK K;try simp only [Act.put,List.getElem_toArray,List.getElem_cons_zero,List.getElem_cons_succ]
    refine dn ?_ _;go_wp2_with fail
    go_meet;exact ⟨a1,p1,a2,p2,uh H6⟩
  ·have cx:=c18;go_simp;refine ro hK trivial fun _=>?_
   clear hK K;clear cx;refine r1 1 rfl (fun K hK=>?_);have cx:=c17;go_simp;refine ro hK trivial fun _=>?_
   clear hK K;clear cx;refine r1 2 rfl (fun K hK=>?_);go_simp;refine (uh C1 _ (uh HZ).2).mono ?_;rintro r w5 ⟨a1,p1,rfl,ho1,hb5⟩;have q5:=(hb5.block A hAl).trans (uh HZ).1;have d18:w5.cell? ⟨A,18,none⟩=some (.slice x2 n2 y2):=by rw [cr q5];rfl
   have H5:=hide (And.intro q5 (And.intro ho1 ((uh HZ).2.trans (hb5.mono (uh HZ).2.size))));have hs5:w.heap.size≤z.heap.size:=hAw;clear q5 ho1 hb5;go_wp2_with fail
   refine ro hK trivial fun _=>?_
   clear hK K;refine t2 6 ?_;refine r1 5 rfl (fun K hK=>?_);go_simp;refine (uh C2 _ (uh H5).2.2).mono ?_;rintro r w6 ⟨a2,p2,rfl,ho2,hb6⟩;have q6:=(hb6.block A (ge.1 (uh H5).1).1).trans (uh H5).1;have g17:w6.cell? ⟨A,17,none⟩=some (.slice x1 n1 y1):=by rw [cr q6];rfl
   have f17:w6.frozen? ⟨A,17,none⟩=false:=frz q6 17;have r7:=heap_setCell_same w6 A 17 _ _ (.slice a1 n1 p1) q6;have g18:(w6.setCell ⟨A,17,none⟩ (.slice a1 n1 p1)).cell? ⟨A,18,none⟩=some (.slice x2 n2 y2):=by rw [cr r7];rfl
   have f18:(w6.setCell ⟨A,17,none⟩ (.slice a1 n1 p1)).frozen? ⟨A,18,none⟩=false:=frz r7 18;have r8:=heap_setCell_same (w6.setCell ⟨A,17,none⟩ (.slice a1 n1 p1)) A 18 _ _ (.slice a2 n2 p2) r7;have k1:=own_below (uh H5).2.1 hb6;have hap:=own_fresh (uh H5).2.1 ho2;have hlo:=(uh H5).2.2.trans (hb6.mono (uh H5).2.2.size);have n1A:∀ g,(Value.slice a1 n1 p1).ownBlock=some g→g≠A:=fun g hg e=>by have h1:z.heap.size≤g:=(k1.lt g hg).1;omega
   have n2A:∀ g,(Value.slice a2 n2 p2).ownBlock=some g→g≠A:=fun g hg e=>by have h1:=(ho2.lt g hg).1;have h2:=(ge.1 (uh H5).1).1;omega
   have hk:∀ g,g≠A→((w6.setCell ⟨A,17,none⟩ (.slice a1 n1 p1)).setCell ⟨A,18,none⟩ (.slice a2 n2 p2)).heap[g]?=w6.heap[g]?:=fun g hg=>(heap_setCell_other _ _ _ _ hg).trans (heap_setCell_other _ _ _ _ hg)
   have H6:=hide (And.intro (show ((w6.setCell ⟨A,17,none⟩ (.slice a1 n1 p1)).setCell ⟨A,18,none⟩ (.slice a2 n2 p2)).heap[A]?=some (.cells (enC e (.slice a1 n1 p1) (.slice a2 n2 p2)) 29) from r8) (And.intro (own_mono (own_other k1 fun g hg=>hk g (n1A g hg)) hAw) (And.intro (own_mono (own_other ho2 fun g hg=>hk g (n2A g hg)) (uh H5).2.2.size) (And.intro hap ((hlo.setCell (p:=⟨A,17,none⟩) (Nat.le_of_eq eA) (.slice a1 n1 p1)).setCell (p:=⟨A,18,none⟩) (Nat.le_of_eq eA) (.slice a2 n2 p2))))));clear q6 r7 r8 ho2 hb6 k1 hap hlo n1A n2A hk;go_wp2_with fail
   refine ro hK trivial fun _=>?_
   clear hK K;refine r1 7 rfl (fun K hK=>?_);go_simp;refine ro hK trivial fun _=>?_
   clear hK K;refine t2 8 ?_;refine r1 9 rfl (fun K hK=>?_);go_simp;refine hK.out _ _ trivial (fun _=>?_);clear hK K;try simp only [Act.put,List.getElem_toArray,List.getElem_cons_zero,List.getElem_cons_succ]
   refine dn ?_ _;go_wp2_with fail
   go_meet;exact ⟨a1,p1,a2,p2,uh H6⟩
 case rest =>
  obtain ⟨a1,p1,a2,p2,hq⟩:=hcut;have HQ:=hide hq;clear hq;go_upto_region 2 with fail
  refine gen_world (fun q=>q.heap[A]?=some (.cells (enC e (.slice a1 n1 p1) (.slice a2 n2 p2)) 29)∧q.ownsRow w.heap.size 116 2 (.slice a1 n1 p1) n1 (ocells F1)∧q.ownsRow w.heap.size 116 2 (.slice a2 n2 p2) n2 (ocells F2)∧Ap (.slice a1 n1 p1) (.slice a2 n2 p2)∧Below w.heap.size w q) ?_ ?_
  ·exact uh HQ
  clear HQ HZ c17 c18;rintro q hq;have HQ:=hide hq;clear hq
  go_wp2_with (first
   | (refine wpList_load_row rfl 29 (.tmp 2) rfl A rfl 29 (enC e (.slice a1 n1 p1) (.slice a2 n2 p2)) (0,0) _ (uh HQ).1 underlying29 rfl infoE ?_)
   | (refine wpList_buildTo rfl 83 _ rfl (some 15) rfl (wk0 e (.slice a1 n1 p1) (.slice a2 n2 p2) now).toArray (by as_aux_lemma=>kernel_rfl) ?_)
   | (refine Great.wpList_allocTo rfl (some 16) rfl (.pointer (some ⟨q.heap.size,0,none⟩)) (.cells (wk0 e (.slice a1 n1 p1) (.slice a2 n2 p2) now).toArray 83) (by as_aux_lemma=>kernel_rfl) ?_))
  go_ret
  obtain ⟨_,o1,o2,ap,lo⟩:=uh HQ;exact ⟨_,_,_,rfl,Lay.start ttI e1 e2 now o1 o2 ap lo⟩
theorem implEndRightE (e:En) (x1 x2:Option Addr) (y1 y2:Nat) (F1 F2:List Op.Opt) (w:World) (l1:F1.length≤maxLen) (l2:F2.length≤maxLen) (h1:HoldsO w (.slice x1 F1.length y1) F1) (h2:HoldsO w (.slice x2 F2.length y2) F2) :
  Calls prog 35 #[.agg (enC e (.slice x1 F1.length y1) (.slice x2 F2.length y2))] w fun r w'=>r=.returned (.bool (enOk e F1 F2))∧Below w.heap.size w w' :=
 implEndRight_of e x1 x2 y1 y2 F1 F2 w l1 l2 h1 h2 eqL
theorem enOk_rights {e:En} {F1 F2:List Op.Opt} (h:enOk e F1 F2=true):Op.right F1=true∧Op.right F2=true:=by
 simp only [enOk,Bool.and_eq_true] at h;exact ⟨opOk_right h.2.2.2.2.2.2.1,opOk_right h.2.2.2.2.2.2.2.1⟩
theorem iEndTick (e:En) (x1 x2:Option Addr) (y1 y2:Nat) (F1 F2:List Op.Opt) (now:Int) (w:World) (l1:F1.length≤1048576) (l2:F2.length≤1048576) (h1:HoldsO w (.slice x1 F1.length y1) F1) (h2:HoldsO w (.slice x2 F2.length y2) F2) (hEv:EvT w) (hNx:NxT w) (hSp:SpT w) :
  Calls prog 11 #[.agg (enC e (.slice x1 F1.length y1) (.slice x2 F2.length y2)),.int .i64 now] w fun r w'=>EvA w (tickF e F1 F2 now) r w':=by
 have CR:=hide fun W (hb:Below w.heap.size w W)=>implEndRightE e x1 x2 y1 y2 F1 F2 W (by unfold maxLen;omega) (by unfold maxLen;omega) (h1.below hb rfl) (h2.below hb rfl)
 have CW:=hide fun W (hb:Below w.heap.size w W) (r:Op.right F1=true∧Op.right F2=true)=>iWork e x1 x2 y1 y2 F1 F2 now W r.1 r.2 (h1.below hb rfl) (h2.below hb rfl)
 have CT:=hide fun W=>iTime now W
 clear h1 h2;have HF:=hide (fit0 (e:=e) (F1:=F1) (F2:=F2) (now:=now));have HG:=hide (enOk_rights (e:=e) (F1:=F1) (F2:=F2));obtain ⟨_,hA,hX,hb⟩:=start2r w (.cells (enC e (.slice x1 F1.length y1) (.slice x2 F2.length y2)) 29) (.cells eoZ 42);obtain ⟨A,eA⟩:∃ A,w.heap.size=A:=⟨_,rfl⟩;have hXw:w.heap.size≤A+1:=by omega
 rw [eA] at hA hX;have H0:=hide (And.intro hA (And.intro hX hb));clear hA hX hb;unfold tickF;generalize enOk e F1 F2=ok1 at *;generalize within 0 1000000000 now=ok2 at *;obtain ⟨n1,e1⟩:∃ n,F1.length=n:=⟨_,rfl⟩;obtain ⟨n2,e2⟩:∃ n,F2.length=n:=⟨_,rfl⟩;rw [e1] at CR CW H0 ⊢;rw [e2] at CR CW H0 ⊢;go_enter func11,ntmps11
 go_upto_region 1 with fail
 refine gen_world (fun z=>z.heap[A]?=some (.cells (enC e (.slice x1 n1 y1) (.slice x2 n2 y2)) 29)∧z.heap[A+1]?=some (.cells eoZ 42)∧Below w.heap.size w z) ?_ ?_
 ·exact uh H0
 clear H0;rintro z hz;have HZ:=hide hz;clear hz
 go_wp2_with (first
  | (refine wpList_load_row rfl 29 (.tmp 2) rfl A rfl 29 (enC e (.slice x1 n1 y1) (.slice x2 n2 y2)) (0,0) _ (uh HZ).1 underlying29 rfl infoE ?_))
 refine (uh CR _ (uh HZ).2.2).mono ?_;rintro r z1 ⟨rfl,hb1⟩;have hA1:=(hb1.block A (ge.1 (uh HZ).1).1).trans (uh HZ).1;have hX1:=(hb1.block (A+1) (ge.1 (uh HZ).2.1).1).trans (uh HZ).2.1;have H1:=hide (And.intro hA1 (And.intro hX1 ((uh HZ).2.2.trans (hb1.mono (uh HZ).2.2.size))));have c13:z1.cell? ⟨A,13,none⟩=some (.int .i64 e.tr):=by rw [cr hA1];rfl
 have c14:z1.cell? ⟨A,14,none⟩=some (.int .i64 e.du):=by rw [cr hA1];rfl
 clear hA1 hX1 hb1 CR HZ;have CTX:Hid (∀ W,Calls prog 37 #[.int .i64 now] W fun e w'=>e=.returned (.bool ok2)∧w'=W):=CT;cases ok1
 ·go_wp2_with (first
   | (refine wpList_buildTo rfl 42 _ rfl (some 14) rfl (eoC enZero (.slice none 0 0) (.slice none 0 0) (.slice none 0 0) (.slice none 0 0) 1) (by as_aux_lemma=>kernel_rfl) ?_)
   | (refine wpList_store_rowTo rfl 42 (.tmp 4) (.tmp 14) rfl rfl (A+1) (eoC enZero (.slice none 0 0) (.slice none 0 0) (.slice none 0 0) (.slice none 0 0) 1) rfl rfl 42 eoZ (uh H1).2.1 infoEo rfl (eoC_all _ _ _ _ _ _ _ _ _ _ _ _ _ _) ?_))
  refine bodyPost_ret (v:=.agg (eoC enZero (.slice none 0 0) (.slice none 0 0) (.slice none 0 0) (.slice none 0 0) 1)) (by simp [results,results11,asAddr,loadEo (setRow_heap z1 (A+1) _ (eoC enZero (.slice none 0 0) (.slice none 0 0) (.slice none 0 0) (.slice none 0 0) 1) _ _ (uh H1).2.1)]) rfl ?_;exact evErr (below_row (uh H1).2.2 hXw _) 1
 ·cases ok2
  ·go_wp2_with (first
    | (go_at_call 37;refine (uh CT _).mono ?_;rintro r ws ⟨rfl,hws⟩;replace hws:=hws.symm;subst hws)
    | (refine wpList_buildTo rfl 42 _ rfl (some 14) rfl (eoC enZero (.slice none 0 0) (.slice none 0 0) (.slice none 0 0) (.slice none 0 0) 1) (by as_aux_lemma=>kernel_rfl) ?_)
    | (refine wpList_store_rowTo rfl 42 (.tmp 4) (.tmp 14) rfl rfl (A+1) (eoC enZero (.slice none 0 0) (.slice none 0 0) (.slice none 0 0) (.slice none 0 0) 1) rfl rfl 42 eoZ (uh H1).2.1 infoEo rfl (eoC_all _ _ _ _ _ _ _ _ _ _ _ _ _ _) ?_))
   refine bodyPost_ret (v:=.agg (eoC enZero (.slice none 0 0) (.slice none 0 0) (.slice none 0 0) (.slice none 0 0) 1)) (by simp [results,results11,asAddr,loadEo (setRow_heap z1 (A+1) _ (eoC enZero (.slice none 0 0) (.slice none 0 0) (.slice none 0 0) (.slice none 0 0) 1) _ _ (uh H1).2.1)]) rfl ?_;exact evErr (below_row (uh H1).2.2 hXw _) 1
  ·replace HF:=hide (uh HF rfl);replace CW:=hide fun W hb=>uh CW W hb (uh HG rfl)
   have hdu:=(uh HF).2.2;by_cases hd:e.du<0∨now<e.du
   ·by_cases hd0:e.du=-1
    ·have hd9:e.du<0:=by omega
     go_wp2_with (first
      | (go_at_call 37;refine (uh CT _).mono ?_;rintro r ws ⟨rfl,hws⟩;replace hws:=hws.symm;subst hws)
      | (refine wpList_buildTo rfl 42 _ rfl (some 24) rfl (eoC enZero (.slice none 0 0) (.slice none 0 0) (.slice none 0 0) (.slice none 0 0) 8) (by as_aux_lemma=>kernel_rfl) ?_)
      | (refine wpList_store_rowTo rfl 42 (.tmp 4) (.tmp 24) rfl rfl (A+1) (eoC enZero (.slice none 0 0) (.slice none 0 0) (.slice none 0 0) (.slice none 0 0) 8) rfl rfl 42 eoZ (uh H1).2.1 infoEo rfl (eoC_all _ _ _ _ _ _ _ _ _ _ _ _ _ _) ?_))
     refine bodyPost_ret (v:=.agg (eoC enZero (.slice none 0 0) (.slice none 0 0) (.slice none 0 0) (.slice none 0 0) 8)) (by simp [results,results11,asAddr,loadEo (setRow_heap z1 (A+1) _ (eoC enZero (.slice none 0 0) (.slice none 0 0) (.slice none 0 0) (.slice none 0 0) 8) _ _ (uh H1).2.1)]) rfl ?_;exact evErr (below_row (uh H1).2.2 hXw _) 8
    ·have hd1:now<e.du:=hd.resolve_left (by omega);have hd9:¬ (e.du<0):=by omega
     have hd2:(e.du == -1)=false:=beq_eq_false_iff_ne.2 hd0
     go_wp2_with (first
      | (go_at_call 37;refine (uh CT _).mono ?_;rintro r ws ⟨rfl,hws⟩;replace hws:=hws.symm;subst hws)
      | (refine wpList_buildTo rfl 42 _ rfl (some 24) rfl (eoC enZero (.slice none 0 0) (.slice none 0 0) (.slice none 0 0) (.slice none 0 0) 8) (by as_aux_lemma=>kernel_rfl) ?_)
      | (refine wpList_store_rowTo rfl 42 (.tmp 4) (.tmp 24) rfl rfl (A+1) (eoC enZero (.slice none 0 0) (.slice none 0 0) (.slice none 0 0) (.slice none 0 0) 8) rfl rfl 42 eoZ (uh H1).2.1 infoEo rfl (eoC_all _ _ _ _ _ _ _ _ _ _ _ _ _ _) ?_))
     refine bodyPost_ret (v:=.agg (eoC enZero (.slice none 0 0) (.slice none 0 0) (.slice none 0 0) (.slice none 0 0) 8)) (by simp [results,results11,asAddr,loadEo (setRow_heap z1 (A+1) _ (eoC enZero (.slice none 0 0) (.slice none 0 0) (.slice none 0 0) (.slice none 0 0) 8) _ _ (uh H1).2.1)]) rfl ?_;exact evErr (below_row (uh H1).2.2 hXw _) 8
   ·have hd0:¬ (e.du<0):=fun h=>hd (Or.inl h)
    have hd1:¬ (now<e.du):=fun h=>hd (Or.inr h)
    have hd2:(e.du == -1)=false:=beq_eq_false_iff_ne.2 (by omega)
    go_wp2_with (first
     | (go_at_call 37;refine (uh CT _).mono ?_;rintro r ws ⟨rfl,hws⟩;replace hws:=hws.symm;subst hws)
     | (refine wpList_load_row rfl 29 (.tmp 2) rfl A rfl 29 (enC e (.slice x1 n1 y1) (.slice x2 n2 y2)) (0,0) _ (uh H1).1 underlying29 rfl infoE ?_))
    refine (uh CW _ (uh H1).2.2).mono ?_;rintro r z2 ⟨B,v1,v2,rfl,hL⟩;have hl:=hL.low;have hA2:=(hl.block A (ge.1 (uh H1).1).1).trans (uh H1).1;have d13:z2.cell? ⟨A,13,none⟩=some (.int .i64 e.tr):=by rw [cr hA2];rfl
    have HL:=hide hL;clear hL hl hA2 c13 c14;by_cases ht:0<e.tr
    ·have hE0:=iHappen z1 z2 B (cx0 now) ⟨e,F1,F2,[],[]⟩ v1 v2 z2 (uh HL) rfl rfl (uh HF).1 4 ⟨#[84,79,43]⟩ rfl (hEv.below (uh H1).2.2) (hNx.below (uh H1).2.2) (hSp.below (uh H1).2.2) (fsm6 (i:=4) (by decide) rfl (uh HF).2.1.1 (uh HF).2.1.2).1 (fsm6 (i:=4) (by decide) rfl (uh HF).2.1.1 (uh HF).2.1.2).2;have CE:=hide hE0;clear hE0;go_wp2_with fail
     refine (uh CE).mono ?_;rintro r z3 ⟨u1,u2,us,ut,rfl,hE'⟩;have hE:EvA z1 (evF (cx0 now) ⟨e,F1,F2,[],[]⟩ ⟨#[84,79,43]⟩) (.returned (.agg (eoC (evF (cx0 now) ⟨e,F1,F2,[],[]⟩ ⟨#[84,79,43]⟩).e u1 u2 us ut (evF (cx0 now) ⟨e,F1,F2,[],[]⟩ ⟨#[84,79,43]⟩).cd))) z3:=⟨u1,u2,us,ut,rfl,hE'⟩;clear hE';generalize eoC (evF (cx0 now) ⟨e,F1,F2,[],[]⟩ ⟨#[84,79,43]⟩).e u1 u2 us ut (evF (cx0 now) ⟨e,F1,F2,[],[]⟩ ⟨#[84,79,43]⟩).cd=cs at *;obtain ⟨hsz,hall,hX2,hEv⟩:=hE.up (uh H1).2.2 (uh H1).2.1 hXw;have HE2:=hide (And.intro hX2 hEv);clear hE hX2 hEv
     go_wp2_with (first
      | (refine wpList_store_rowTo rfl 42 (.tmp 4) (.tmp 32) rfl rfl (A+1) cs rfl rfl 42 eoZ (uh HE2).1 (by rw [hsz];exact infoEo) (by rw [hsz];rfl) hall ?_))
     refine bodyPost_ret (v:=.agg cs) (by simp [results,results11,asAddr,loadEo (setRow_heap z3 (A+1) _ cs _ _ (uh HE2).1) hsz]) rfl ?_;exact (uh HE2).2
    ·have hE0:=iHappen z1 z2 B (cx0 now) ⟨e,F1,F2,[],[]⟩ v1 v2 z2 (uh HL) rfl rfl (uh HF).1 5 ⟨#[84,79,45]⟩ rfl (hEv.below (uh H1).2.2) (hNx.below (uh H1).2.2) (hSp.below (uh H1).2.2) (fsm6 (i:=5) (by decide) rfl (uh HF).2.1.1 (uh HF).2.1.2).1 (fsm6 (i:=5) (by decide) rfl (uh HF).2.1.1 (uh HF).2.1.2).2;have CE:=hide hE0;clear hE0;go_wp2_with fail
     refine (uh CE).mono ?_;rintro r z3 ⟨u1,u2,us,ut,rfl,hE'⟩;have hE:EvA z1 (evF (cx0 now) ⟨e,F1,F2,[],[]⟩ ⟨#[84,79,45]⟩) (.returned (.agg (eoC (evF (cx0 now) ⟨e,F1,F2,[],[]⟩ ⟨#[84,79,45]⟩).e u1 u2 us ut (evF (cx0 now) ⟨e,F1,F2,[],[]⟩ ⟨#[84,79,45]⟩).cd))) z3:=⟨u1,u2,us,ut,rfl,hE'⟩;clear hE';generalize eoC (evF (cx0 now) ⟨e,F1,F2,[],[]⟩ ⟨#[84,79,45]⟩).e u1 u2 us ut (evF (cx0 now) ⟨e,F1,F2,[],[]⟩ ⟨#[84,79,45]⟩).cd=cs at *;obtain ⟨hsz,hall,hX2,hEv⟩:=hE.up (uh H1).2.2 (uh H1).2.1 hXw;have HE2:=hide (And.intro hX2 hEv);clear hE hX2 hEv
     go_wp2_with (first
      | (refine wpList_store_rowTo rfl 42 (.tmp 4) (.tmp 34) rfl rfl (A+1) cs rfl rfl 42 eoZ (uh HE2).1 (by rw [hsz];exact infoEo) (by rw [hsz];rfl) hall ?_))
     refine bodyPost_ret (v:=.agg cs) (by simp [results,results11,asAddr,loadEo (setRow_heap z3 (A+1) _ cs _ _ (uh HE2).1) hsz]) rfl ?_;exact (uh HE2).2
end Go.Proofs.YtahpjlbaagkdoaaGreatDoor
