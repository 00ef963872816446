/- HrT HrS -/
import Derived.Test.YtjdgiimfpkideaaGreatDoorS28
set_option maxHeartbeats 16000000
set_option maxRecDepth 100000
set_option linter.unusedSimpArgs false
namespace Go.Proofs.YtjdgiimfpkideaaGreatDoor
open Go.RowKit Go.Proofs.Tryz
variable {x:Cf} {w0 w1 q w q0:World} {B X:Nat} {now:Int} {p:Op.Pk} {e:En} {F1 F2:List Op.Opt} {v1 v2:Value} {o:EO}
theorem ES(k:Int)(h:sw x=true):sw (lQ k x)=true:=by
 unfold sw aK at h|-;simp only[bh,zK,decide_eq_true_eq]at h|-;unfold lQ;split
 .dsimp only;omega
 split
 .dsimp only;omega
 split
 .dsimp only;omega
 split
 .exact h
 split
 .exact h
 split
 .exact h
 .exact h
theorem nf(h:sw x=true)(F:List Op.Opt):sw (gI x F)=true:=by
 unfold gI;induction F generalizing x with
 | nil=>exact h
 | cons o F ih=>exact ih (ES _ h)
def xG(w0 w1:World)(B:Nat)(now:Int)(p:Op.Pk)(e:En)(F1 F2:List Op.Opt)(v1 v2:Value)(r:Ending)(q':World):Prop :=
 ∃(c':Cx)(e':En)(k:Nat)(cd:Int),r=.returned (.tuple #[.int .i64 (k:Int),cd])/\Lay 129 w0 w1 B c' ⟨e',F1,F2,[],[]⟩ v1 v2 ai ai q' /\
  (cd=0->aB now p e F1 F2=bj c' ⟨e',F1,F2,[],[]⟩ (im k)/\k<16/\Fit 0 c' ⟨e',F1,F2,[],[]⟩/\(k=6->c'.ac=2)/\(k=7->c'.ac≠2)/\e'.st=e.st)/\(cd≠0->aB now p e F1 F2=bA cd)
theorem xH(h:Lay 129 w0 w1 B (aU now p [] (0,[]) ai ai) ⟨e,F1,F2,[],[]⟩ v1 v2 ai ai q)(hf:Fit 0 (bY now) ⟨e,F1,F2,[],[]⟩)(hp:Op.pok p=true)(hE:Et q):Calls prog 93 #[(B,0)] q fun r q'=>xG w0 w1 B now p e F1 F2 v1 v2 r q':=by
 have hs:p.data.size<=250:=by
  have:=hp
  unfold Op.pok at this;exact(of_decide_eq_true this).2.2.2.2
 have hf2:Fit 0 (aU now p [] (0,[]) ai ai) ⟨e,F1,F2,[],[]⟩:=hf.came p hp rfl rfl _ _;have c31:q.cell? (B,31)=some (.int .i64 p.code):=h.cell (i:=31) rfl;have HF:=aa (zA hf (zA hf2 hp));have HL:=aa h;clear hf hf2 hp;by_cases h1:p.code=1
 .rw [h1]at c31;by_cases h0:(ar p.data).2=0
  .have C:Hid (Calls prog 121 #[(B,0)] q fun r q'=>∃vh va,Lay 129 w0 w1 B (aU now p (ar p.data).1 (dI e (ar p.data).1) vh va) ⟨e,F1,F2,[],[]⟩ v1 v2 ai ai q'/\r=.returned (.tuple #[.int .i64 (if(dI e (ar p.data).1).1=2 then 6 else 7),(0:Int)])):=aa (sV h hs hE h0);clear h hE;have hfr:=fun vh va=>HF.out.1.came p HF.out.2.2 (eS hs) (kB e (eS hs)) vh va
   have HH:Hid (aB now p e F1 F2=bj (aU now p (ar p.data).1 (dI e (ar p.data).1) ai ai) ⟨e,F1,F2,[],[]⟩ (im (if(dI e (ar p.data).1).1=2 then 6 else 7))):=aa (by unfold aB;rw[if_pos h1,if_pos h0]);have HF2:=aa hfr;clear hfr h0 h1 hs;by_cases ha:(dI e (ar p.data).1).1=2
   .rw [if_pos ha]at C HH;have HA:=aa ha;clear ha;go_enter func93,ntmps93
    go_wp2_with fail
    refine C.out.mono ?_;rintro r z1⟨vh,va,hl,rfl⟩;have H1:=aa hl;clear hl C;go_wp2
    refine bodyPost_ret (v:=.tuple #[(6:Int),(0:Int)]) (by simp[results,results93,go_sem]) rfl ?_;exact⟨_,_,6,0,rfl,uh H1,fun _=>⟨uh HH,by decide,uh HF2 vh va,fun _=>uh HA,fun h=>absurd h (by decide),rfl⟩,fun h=>absurd rfl h⟩
   .rw [if_neg ha]at C HH;have HA:=aa ha;clear ha;go_enter func93,ntmps93
    go_wp2_with fail
    refine C.out.mono ?_;rintro r z1⟨vh,va,hl,rfl⟩;have H1:=aa hl;clear hl C;go_wp2
    refine bodyPost_ret (v:=.tuple #[(7:Int),(0:Int)]) (by simp[results,results93,go_sem]) rfl ?_;exact⟨_,_,7,0,rfl,uh H1,fun _=>⟨uh HH,by decide,uh HF2 vh va,fun h=>absurd h (by decide),fun _=>uh HA,rfl⟩,fun h=>absurd rfl h⟩
  .have C:Hid (Calls prog 121 #[(B,0)] q fun r q'=>Lay 129 w0 w1 B (aU now p [] (0,[]) ai ai) ⟨e,F1,F2,[],[]⟩ v1 v2 ai ai q'/\r=.returned (.tuple #[(0:Int),.int .i64 (ar p.data).2])):=aa (ER h hs hE h0);have HH:Hid (aB now p e F1 F2=bA (ar p.data).2):=aa (by unfold aB;rw[if_pos h1,if_neg h0]);have HZ:=aa h0;clear h hE h0 h1 hs;go_enter func93,ntmps93
   go_wp2_with fail
   refine C.out.mono ?_;rintro r z1⟨hl,rfl⟩;have H1:=aa hl;clear hl C;go_wp2
   refine bodyPost_ret (v:=.tuple #[(0:Int),.int .i64 (ar p.data).2]) (by simp[results,results93,go_sem]) rfl ?_;exact⟨_,_,0,_,rfl,uh H1,fun h=>absurd h HZ.out,fun _=>uh HH⟩
 by_cases h2:p.code=2
 .rw [h2]at c31;have C:=aa (qz h HF.out.2.1);clear h hE hs;by_cases ha:p.id=e.id/\p.data=co (Op.bytes F1)
  .have HH:Hid (aB now p e F1 F2=bj (aU now p [] (0,[]) ai ai) ⟨e,F1,F2,[],[]⟩ (im 8)):=aa (by unfold aB;rw[if_neg h1,if_pos h2,if_pos ha]);have ha2:(aU now p [] (0,[]) ai ai).ci=e.id/\(aU now p [] (0,[]) ai ai).cd=co (Op.bytes F1):=ha;rw[if_pos ha2,if_pos ha2]at C;clear ha ha2 h1 h2;go_enter func93,ntmps93
   go_wp2_with fail
   refine C.out.mono ?_;rintro r z1⟨hl,rfl⟩;have H1:=aa hl;clear hl C;go_wp2
   refine bodyPost_ret (v:=.tuple #[(8:Int),(0:Int)]) (by simp[results,results93,go_sem]) rfl ?_;exact⟨_,_,8,0,rfl,uh H1,fun _=>⟨uh HH,by decide,HF.out.2.1,fun h=>absurd h (by decide),fun h=>absurd h (by decide),rfl⟩,fun h=>absurd rfl h⟩
  .have HH:Hid (aB now p e F1 F2=bA 8):=aa (by unfold aB;rw[if_neg h1,if_pos h2,if_neg ha]);have ha2:¬((aU now p [] (0,[]) ai ai).ci=e.id/\(aU now p [] (0,[]) ai ai).cd=co (Op.bytes F1)):=ha;rw[if_neg ha2,if_neg ha2]at C;clear ha ha2 h1 h2;go_enter func93,ntmps93
   go_wp2_with fail
   refine C.out.mono ?_;rintro r z1⟨hl,rfl⟩;have H1:=aa hl;clear hl C;go_wp2
   refine bodyPost_ret (v:=.tuple #[(0:Int),(8:Int)]) (by simp[results,results93,go_sem]) rfl ?_;exact⟨_,_,0,8,rfl,uh H1,fun h=>absurd h (by decide),fun _=>uh HH⟩
 by_cases h3:p.code=3
 .rw [h3]at c31;by_cases hi:p.id=e.id
  .by_cases h0:(ar p.data).2=0
   .have C:=aa (n5 h hs hE hi HF.out.1.ask h0);have HH:Hid (aB now p e F1 F2=bj (aU now p [] (0,[]) ai ai) ⟨ee e (bF (gr e) (ar p.data).1),F1,F2,[],[]⟩ (im 9)):=aa (by unfold aB;rw[if_neg h1,if_neg h2,if_pos (Or.inl h3),if_pos hi,if_pos h0,if_pos h3]);have e9:(aU now p [] (0,[]) ai ai).cc=p.code:=rfl;rw[e9,if_pos h3]at C;have HO:Hid (Fit 0 (aU now p [] (0,[]) ai ai) ⟨ee e (bF (gr e) (ar p.data).1),F1,F2,[],[]⟩):=aa (HF.out.2.1.asks (gK (eF HF.out.1.ask) _));clear h hE hs h0 hi h1 h2 h3 e9;go_enter func93,ntmps93
    go_wp2_with fail
    refine C.out.mono ?_;rintro r z1⟨hl,rfl⟩;have H1:=aa hl;clear hl C;go_wp2
    refine bodyPost_ret (v:=.tuple #[(9:Int),(0:Int)]) (by simp[results,results93,go_sem]) rfl ?_;exact⟨_,_,9,0,rfl,uh H1,fun _=>⟨uh HH,by decide,uh HO,fun h=>absurd h (by decide),fun h=>absurd h (by decide),rfl⟩,fun h=>absurd rfl h⟩
   .have C:Hid (Calls prog 123 #[(B,0)] q fun r q'=>Lay 129 w0 w1 B (aU now p [] (0,[]) ai ai) ⟨e,F1,F2,[],[]⟩ v1 v2 ai ai q'/\r=.returned (.tuple #[(0:Int),.int .i64 (ar p.data).2])):=aa (qH h hs hE hi h0);have HH:Hid (aB now p e F1 F2=bA (ar p.data).2):=aa (by unfold aB;rw[if_neg h1,if_neg h2,if_pos (Or.inl h3),if_pos hi,if_neg h0]);have HZ:=aa h0;clear h hE hs h0 hi h1 h2 h3;go_enter func93,ntmps93
    go_wp2_with fail
    refine C.out.mono ?_;rintro r z1⟨hl,rfl⟩;have H1:=aa hl;clear hl C;go_wp2
    refine bodyPost_ret (v:=.tuple #[(0:Int),.int .i64 (ar p.data).2]) (by simp[results,results93,go_sem]) rfl ?_;exact⟨_,_,0,_,rfl,uh H1,fun h=>absurd h HZ.out,fun _=>uh HH⟩
  .have C:=aa (qG h hi);have HH:Hid (aB now p e F1 F2=bA 8):=aa (by unfold aB;rw[if_neg h1,if_neg h2,if_pos (Or.inl h3),if_neg hi]);clear h hE hs hi h1 h2 h3;go_enter func93,ntmps93
   go_wp2_with fail
   refine C.out.mono ?_;rintro r z1⟨hl,rfl⟩;have H1:=aa hl;clear hl C;go_wp2
   refine bodyPost_ret (v:=.tuple #[(0:Int),(8:Int)]) (by simp[results,results93,go_sem]) rfl ?_;exact⟨_,_,0,8,rfl,uh H1,fun h=>absurd h (by decide),fun _=>uh HH⟩
 by_cases h4:p.code=4
 .rw [h4]at c31;by_cases hi:p.id=e.id
  .by_cases h0:(ar p.data).2=0
   .have C:=aa (n5 h hs hE hi HF.out.1.ask h0);have HH:Hid (aB now p e F1 F2=bj (aU now p [] (0,[]) ai ai) ⟨ee e (gI (gr e) (ar p.data).1),F1,F2,[],[]⟩ (im 9)):=aa (by unfold aB;rw[if_neg h1,if_neg h2,if_pos (Or.inr h4),if_pos hi,if_pos h0,if_neg h3]);have e9:(aU now p [] (0,[]) ai ai).cc=p.code:=rfl;rw[e9,if_neg h3]at C;have HO:Hid (Fit 0 (aU now p [] (0,[]) ai ai) ⟨ee e (gI (gr e) (ar p.data).1),F1,F2,[],[]⟩):=aa (HF.out.2.1.asks (nf (eF HF.out.1.ask) _));clear h hE hs h0 hi h1 h2 h3 h4 e9;go_enter func93,ntmps93
    go_wp2_with fail
    refine C.out.mono ?_;rintro r z1⟨hl,rfl⟩;have H1:=aa hl;clear hl C;go_wp2
    refine bodyPost_ret (v:=.tuple #[(9:Int),(0:Int)]) (by simp[results,results93,go_sem]) rfl ?_;exact⟨_,_,9,0,rfl,uh H1,fun _=>⟨uh HH,by decide,uh HO,fun h=>absurd h (by decide),fun h=>absurd h (by decide),rfl⟩,fun h=>absurd rfl h⟩
   .have C:Hid (Calls prog 123 #[(B,0)] q fun r q'=>Lay 129 w0 w1 B (aU now p [] (0,[]) ai ai) ⟨e,F1,F2,[],[]⟩ v1 v2 ai ai q'/\r=.returned (.tuple #[(0:Int),.int .i64 (ar p.data).2])):=aa (qH h hs hE hi h0);have HH:Hid (aB now p e F1 F2=bA (ar p.data).2):=aa (by unfold aB;rw[if_neg h1,if_neg h2,if_pos (Or.inr h4),if_pos hi,if_neg h0]);have HZ:=aa h0;clear h hE hs h0 hi h1 h2 h3 h4;go_enter func93,ntmps93
    go_wp2_with fail
    refine C.out.mono ?_;rintro r z1⟨hl,rfl⟩;have H1:=aa hl;clear hl C;go_wp2
    refine bodyPost_ret (v:=.tuple #[(0:Int),.int .i64 (ar p.data).2]) (by simp[results,results93,go_sem]) rfl ?_;exact⟨_,_,0,_,rfl,uh H1,fun h=>absurd h HZ.out,fun _=>uh HH⟩
  .have C:=aa (qG h hi);have HH:Hid (aB now p e F1 F2=bA 8):=aa (by unfold aB;rw[if_neg h1,if_neg h2,if_pos (Or.inr h4),if_neg hi]);clear h hE hs hi h1 h2 h3 h4;go_enter func93,ntmps93
   go_wp2_with fail
   refine C.out.mono ?_;rintro r z1⟨hl,rfl⟩;have H1:=aa hl;clear hl C;go_wp2
   refine bodyPost_ret (v:=.tuple #[(0:Int),(8:Int)]) (by simp[results,results93,go_sem]) rfl ?_;exact⟨_,_,0,8,rfl,uh H1,fun h=>absurd h (by decide),fun _=>uh HH⟩
 have h34:¬(p.code=3\/p.code=4):=fun h=>h.elim h3 h4
 by_cases h5:p.code=5
 .rw [h5]at c31;have HH:Hid (aB now p e F1 F2=bj (aU now p [] (0,[]) ai ai) ⟨e,F1,F2,[],[]⟩ (im 10)):=aa (by unfold aB;rw[if_neg h1,if_neg h2,if_neg h34,if_neg (fun h=>absurd (h5.symm.trans h.1) (by decide)),if_pos h5]);clear h hE hs;go_enter func93,ntmps93
  go_wp2
  refine bodyPost_ret (v:=.tuple #[(10:Int),(0:Int)]) (by simp[results,results93,go_sem]) rfl ?_;exact⟨_,_,10,0,rfl,uh HL,fun _=>⟨uh HH,by decide,HF.out.2.1,fun h=>absurd h (by decide),fun h=>absurd h (by decide),rfl⟩,fun h=>absurd rfl h⟩
 by_cases h6:p.code=6
 .rw [h6]at c31;have HH:Hid (aB now p e F1 F2=bj (aU now p [] (0,[]) ai ai) ⟨e,F1,F2,[],[]⟩ (im 11)):=aa (by unfold aB;rw[if_neg h1,if_neg h2,if_neg h34,if_neg (fun h=>absurd (h6.symm.trans h.1) (by decide)),if_neg h5,if_pos h6]);clear h hE hs;go_enter func93,ntmps93
  go_wp2
  refine bodyPost_ret (v:=.tuple #[(11:Int),(0:Int)]) (by simp[results,results93,go_sem]) rfl ?_;exact⟨_,_,11,0,rfl,uh HL,fun _=>⟨uh HH,by decide,HF.out.2.1,fun h=>absurd h (by decide),fun h=>absurd h (by decide),rfl⟩,fun h=>absurd rfl h⟩
 by_cases h7:p.code=7
 .rw [h7]at c31;have C:=aa (xF h hs);have e9:(aU now p [] (0,[]) ai ai).cd=p.data:=rfl;rw[e9]at C;clear h hE hs e9;by_cases hz:p.data.size=0
  .have HH:Hid (aB now p e F1 F2=bA 4):=aa (by unfold aB;rw[if_neg h1,if_neg h2,if_neg h34,if_pos ⟨h7,hz⟩]);rw[if_pos hz,if_pos hz]at C;clear hz h1 h2 h3 h4 h34 h5 h6 h7;go_enter func93,ntmps93
   go_wp2_with fail
   refine C.out.mono ?_;rintro r z1⟨hw,rfl⟩;replace hw:=hw.symm;subst hw;clear C;go_wp2
   refine bodyPost_ret (v:=.tuple #[(0:Int),(4:Int)]) (by simp[results,results93,go_sem]) rfl ?_;exact⟨_,_,0,4,rfl,uh HL,fun h=>absurd h (by decide),fun _=>uh HH⟩
  .rw [if_neg hz,if_neg hz]at C;by_cases hh:f_ p.data=true
   .have HH:Hid (aB now p e F1 F2=bj (aU now p [] (0,[]) ai ai) ⟨e,F1,F2,[],[]⟩ (im 14)):=aa (by unfold aB;rw[if_neg h1,if_neg h2,if_neg h34,if_neg (fun h=>hz h.2),if_neg h5,if_neg h6,if_pos h7,if_pos hh]);rw[if_pos hh]at C;clear hz hh h1 h2 h3 h4 h34 h5 h6 h7;go_enter func93,ntmps93
    go_wp2_with fail
    refine C.out.mono ?_;rintro r z1⟨hw,rfl⟩;replace hw:=hw.symm;subst hw;clear C;go_wp2
    refine bodyPost_ret (v:=.tuple #[(14:Int),(0:Int)]) (by simp[results,results93,go_sem]) rfl ?_;exact⟨_,_,14,0,rfl,uh HL,fun _=>⟨uh HH,by decide,HF.out.2.1,fun h=>absurd h (by decide),fun h=>absurd h (by decide),rfl⟩,fun h=>absurd rfl h⟩
   .have HH:Hid (aB now p e F1 F2=bj (aU now p [] (0,[]) ai ai) ⟨e,F1,F2,[],[]⟩ (im 13)):=aa (by unfold aB;rw[if_neg h1,if_neg h2,if_neg h34,if_neg (fun h=>hz h.2),if_neg h5,if_neg h6,if_pos h7,if_neg hh]);rw[if_neg hh]at C;clear hz hh h1 h2 h3 h4 h34 h5 h6 h7;go_enter func93,ntmps93
    go_wp2_with fail
    refine C.out.mono ?_;rintro r z1⟨hw,rfl⟩;replace hw:=hw.symm;subst hw;clear C;go_wp2
    refine bodyPost_ret (v:=.tuple #[(13:Int),(0:Int)]) (by simp[results,results93,go_sem]) rfl ?_;exact⟨_,_,13,0,rfl,uh HL,fun _=>⟨uh HH,by decide,HF.out.2.1,fun h=>absurd h (by decide),fun h=>absurd h (by decide),rfl⟩,fun h=>absurd rfl h⟩
 by_cases h9:p.code=9
 .rw [h9]at c31;have HH:Hid (aB now p e F1 F2=bj (aU now p [] (0,[]) ai ai) ⟨e,F1,F2,[],[]⟩ (im 15)):=aa (by unfold aB;rw[if_neg h1,if_neg h2,if_neg h34,if_neg (fun h=>absurd (h9.symm.trans h.1) (by decide)),if_neg h5,if_neg h6,if_neg h7,if_pos (Or.inl h9)]);clear h hE hs;go_enter func93,ntmps93
  go_wp2
  refine bodyPost_ret (v:=.tuple #[(15:Int),(0:Int)]) (by simp[results,results93,go_sem]) rfl ?_;exact⟨_,_,15,0,rfl,uh HL,fun _=>⟨uh HH,by decide,HF.out.2.1,fun h=>absurd h (by decide),fun h=>absurd h (by decide),rfl⟩,fun h=>absurd rfl h⟩
 by_cases h10:p.code=10
 .rw [h10]at c31;have HH:Hid (aB now p e F1 F2=bj (aU now p [] (0,[]) ai ai) ⟨e,F1,F2,[],[]⟩ (im 15)):=aa (by unfold aB;rw[if_neg h1,if_neg h2,if_neg h34,if_neg (fun h=>absurd (h10.symm.trans h.1) (by decide)),if_neg h5,if_neg h6,if_neg h7,if_pos (Or.inr (Or.inl h10))]);clear h hE hs;go_enter func93,ntmps93
  go_wp2
  refine bodyPost_ret (v:=.tuple #[(15:Int),(0:Int)]) (by simp[results,results93,go_sem]) rfl ?_;exact⟨_,_,15,0,rfl,uh HL,fun _=>⟨uh HH,by decide,HF.out.2.1,fun h=>absurd h (by decide),fun h=>absurd h (by decide),rfl⟩,fun h=>absurd rfl h⟩
 by_cases h11:p.code=11
 .rw [h11]at c31;have HH:Hid (aB now p e F1 F2=bj (aU now p [] (0,[]) ai ai) ⟨e,F1,F2,[],[]⟩ (im 15)):=aa (by unfold aB;rw[if_neg h1,if_neg h2,if_neg h34,if_neg (fun h=>absurd (h11.symm.trans h.1) (by decide)),if_neg h5,if_neg h6,if_neg h7,if_pos (Or.inr (Or.inr h11))]);clear h hE hs;go_enter func93,ntmps93
  go_wp2
  refine bodyPost_ret (v:=.tuple #[(15:Int),(0:Int)]) (by simp[results,results93,go_sem]) rfl ?_;exact⟨_,_,15,0,rfl,uh HL,fun _=>⟨uh HH,by decide,HF.out.2.1,fun h=>absurd h (by decide),fun h=>absurd h (by decide),rfl⟩,fun h=>absurd rfl h⟩
 have HH:Hid (aB now p e F1 F2=bj (aU now p [] (0,[]) ai ai) ⟨e,F1,F2,[],[]⟩ (im 12)):=aa (by unfold aB;rw[if_neg h1,if_neg h2,if_neg h34,if_neg (fun h=>h7 h.1),if_neg h5,if_neg h6,if_neg h7,if_neg (fun h=>h.elim h9 (fun h=>h.elim h10 h11))]);have b1:(p.code==1)=false:=zL h1;have b2:(p.code==2)=false:=zL h2;have b3:(p.code==3)=false:=zL h3;have b4:(p.code==4)=false:=zL h4;have b5:(p.code==5)=false:=zL h5;have b6:(p.code==6)=false:=zL h6;have b7:(p.code==7)=false:=zL h7;have b9:(p.code==9)=false:=zL h9;have b10:(p.code==10)=false:=zL h10;have b11:(p.code==11)=false:=zL h11;clear h hE hs h1 h2 h3 h4 h34 h5 h6 h7 h9 h10 h11;go_enter func93,ntmps93
 go_wp2
 refine bodyPost_ret (v:=.tuple #[(12:Int),(0:Int)]) (by simp[results,results93,go_sem]) rfl ?_;exact⟨_,_,12,0,rfl,uh HL,fun _=>⟨uh HH,by decide,HF.out.2.1,fun h=>absurd h (by decide),fun h=>absurd h (by decide),rfl⟩,fun h=>absurd rfl h⟩
theorem qP(t:ByteArray)(w:World)(h8:t.size<=250):Calls prog 108 #[t] w fun e w'=>∃ad n cp,e=.returned (.tuple #[(ad,n,cp),.bool (decide ((ar t).2=0))])/\((ar t).2=0->n=(ar t).1.length/\w'.ownsRow w 105 2 (.slice ad (ar t).1.length cp) (ar t).1.length (aj (ar t).1))/\Below w w w':=by
 refine(qO t w (by omega)).mono fun e w' h=>?_
 have h8':¬8000<t.size:=by omega
 have hacc:Op.acc [] t.data.toList=(Op.rd t.data.toList).bind fun L=>if Op.right L=true then some L else none:=rfl
 rcases h with⟨hres,rfl,hb⟩|⟨L,ad,cp,hres,rfl,ho,hb⟩
 .rw [uv h8' (by rw[hacc,hres];rfl)];exact⟨none,0,0,rfl,fun h=>absurd h (by decide),hb⟩
 .cases hr:Op.right L
  .rw [uv h8' (by rw[hacc,hres];show(if Op.right L=true then some L else none)=none;rw[hr];rfl)];exact⟨ad,L.length,cp,rfl,fun h=>absurd h (by decide),hb⟩
  .rw [uw (L:=L) h8' (by rw[hacc,hres];show(if Op.right L=true then some L else none)=some L;rw[hr];rfl)];exact⟨ad,L.length,cp,rfl,fun _=>⟨rfl,ho⟩,hb⟩
theorem od{t:ByteArray}(h8:t.size<=250)(h:(ar t).2≠0):(ar t).2=3:=by
 unfold ar at h|-;rw[if_neg (by omega)]at h|-;split at h
 .rfl
 .exact absurd rfl h
theorem EvA.upN{cs:Array Value}(h:EvA w o (.returned (.agg cs)) q)(hn:Nr B q0 q)(hX:q0.heap[X]?=some (.cells k_ 74))(hXB:X≠B)(hXw:w.heap.size<=X):cs.size=33/\cs.all (·.oneCell')=true/\q.heap[X]?=some (.cells k_ 74)/\EvA w o (.returned (.agg cs)) (q.setRow X cs):=by
 obtain⟨v1,v2,vs,vt,e,o1,o2,os,ot,ap,lo⟩:=h;have e':cs=aC o.e v1 v2 vs vt o.cd:=by injection e with e;injection e
 subst e';have hX':q.heap[X]?=some (.cells k_ 74):=(hn.block X (ge.1 hX).1 hXB).trans hX;obtain⟨a1,p1,e1⟩:=af o1;obtain⟨a2,p2,e2⟩:=af o2;obtain⟨a3,p3,e3⟩:=af os;obtain⟨a4,p4,e4⟩:=af ot;refine⟨rfl,?_,hX',v1,v2,vs,vt,rfl,az o1 hX' (by decide),az o2 hX' (by decide),az os hX' (by decide),az ot hX' (by decide),ap,?_⟩
 .rw [e1,e2,e3,e4];exact aG _ _ _ _ _ _ _ _ _ _ _ _ _ _
 .exact am lo hXw _
theorem EvA.outN{r:Ending}(h:EvA w o r q)(hn:Nr B q0 q)(hX:q0.heap[X]?=some (.cells k_ 74))(hXB:X≠B)(hXw:w.heap.size<=X):∃cs:Array Value,r=.returned (.agg cs)/\cs.size=33/\cs.all (·.oneCell')=true/\q.heap[X]?=some (.cells k_ 74)/\EvA w o (.returned (.agg cs)) (q.setRow X cs):=by
 obtain⟨v1,v2,vs,vt,rfl,h'⟩:=h;exact⟨_,rfl,EvA.upN ⟨v1,v2,vs,vt,rfl,h'⟩ hn hX hXB hXw⟩
theorem qQ(h:Lay 99 w0 w1 B (aU now p [] (0,[]) ai ai) ⟨e,F1,F2,[],[]⟩ v1 v2 ai ai q)(hf:Fit 0 (bY now) ⟨e,F1,F2,[],[]⟩)(hp:Op.pok p=true)(hst:0<=e.st/\e.st<=9)(hc:p.code=3\/p.code=4):Calls prog 77 #[(B,0)] q fun r q'=>EvA w0 (aB now p e F1 F2) r q':=by
 have hs:p.data.size<=250:=by
  have:=hp
  unfold Op.pok at this;exact(of_decide_eq_true this).2.2.2.2
 have hk:=hf.ask;have hf2:Fit 0 (aU now p [] (0,[]) ai ai) ⟨e,F1,F2,[],[]⟩:=hf.came p hp rfl rfl _ _;have CO:=aa fun z=>qP p.data z hs
 have hr:=dd p.data;have h1:p.code≠1:=by omega
 have h2:p.code≠2:=by omega
 have hX0:=zF q (.cells k_ 74);have hL0:=h.step ((zC q q).alloc (zD _) (.cells k_ 74));have hXw:w0.heap.size<=q.heap.size:=h.low.size;have hXB:q.heap.size≠B:=Nat.ne_of_gt h.lt;have HST:=aa hst;have KC:Hid (∀z,Lay 99 w0 w1 B (aU now p [] (0,[]) ai ai) ⟨e,F1,F2,[],[]⟩ v1 v2 ai ai z->z.cell? (B,6)=some (.int .i64 e.m2)/\z.cell? (B,7)=some (.int .i64 e.a2)/\z.cell? (B,8)=some (.int .i64 e.g2)/\z.cell? (B,9)=some (.bool e.p2)/\z.cell? (B,10)=some (.bool e.c2)/\z.cell? (B,11)=some (e.d2:V)):=aa fun z hz=>⟨hz.cell (i:=6) rfl,hz.cell (i:=7) rfl,hz.cell (i:=8) rfl,hz.cell (i:=9) rfl,hz.cell (i:=10) rfl,hz.cell (i:=11) rfl⟩
 have H0:=aa (zA hL0 hX0);clear h hX0 hL0 hst;go_enter func77,ntmps77
 go_upto_region 1 with fail
 refine bb (fun z=>Lay 99 w0 w1 B (aU now p [] (0,[]) ai ai) ⟨e,F1,F2,[],[]⟩ v1 v2 ai ai z/\z.heap[q.heap.size]?=some (.cells k_ 74)) H0.out ?_;clear H0;generalize q.heap.size=X at*;intro z1 hz1;have E1:=aa hz1;have c32:z1.cell? (B,32)=some (.int .i64 p.id):=hz1.1.cell (i:=32) rfl;have c15:z1.cell? (B,15)=some (.int .i64 e.id):=hz1.1.cell (i:=15) rfl;clear hz1;by_cases hi:p.id=e.id
 .rw [hi]at c32;go_quiet (fail)
  have E2:Hid (Lay 99 w0 w1 B (aU now p [] (0,[]) ai ai) ⟨e,F1,F2,[],[]⟩ v1 v2 ai ai (z1.drewN nq)/\(z1.drewN nq).heap[X]?=some (.cells k_ 74)):=aa ⟨E1.out.1.step (aH (zC _ _) _),E1.out.2⟩;generalize z1.drewN nq=z2 at*;have c33:z2.cell? (B,33)=some (.string p.data):=E2.out.1.cell (i:=33) rfl;clear E1 c32 c15;go_wp2_with fail
  refine(uh CO _).mono ?_;rintro r z3⟨ad,n,cp,rfl,hyes,hb3⟩;by_cases h0:(ar p.data).2=0
  .obtain ⟨hn,ho⟩:=hyes h0;subst hn;have E3:=aa (zA (E2.out.1.step hb3) (zA ((hb3.block _ (ge.1 E2.out.2).1).trans E2.out.2) (HoldsO.own ho)));have hd0:decide ((ar p.data).2=0)=true:=decide_eq_true h0;have c31:z3.cell? (B,31)=some (.int .i64 p.code):=E3.out.1.cell (i:=31) rfl;rw[hd0];clear hyes ho hb3 E2 c33 CO hd0;have CL:Hid (∀(z:World),HoldsO z (.slice ad (ar p.data).1.length cp) (ar p.data).1->Calls prog 110 #[.agg #[e.m2,e.a2,e.g2,e.p2,e.c2,e.d2],.slice ad (ar p.data).1.length cp] z fun r w'=>r=.returned (.agg (dr (bF (gr e) (ar p.data).1)))/\Below z z w'):=aa fun z hz=>by
    have:=qJ (gr e) _ (ar p.data).1 z (eF hk) hr hz
    rwa [fO hk]at this
   have CW:Hid (∀(z:World),HoldsO z (.slice ad (ar p.data).1.length cp) (ar p.data).1->Calls prog 111 #[.agg #[e.m2,e.a2,e.g2,e.p2,e.c2,e.d2],.slice ad (ar p.data).1.length cp] z fun r w'=>r=.returned (.agg (dr (gI (gr e) (ar p.data).1)))/\Below z z w'):=aa fun z hz=>by
    have:=lU (gr e) _ (ar p.data).1 z (eF hk) hr hz
    rwa [fO hk]at this
   by_cases h3:p.code=3
   .have HH:Hid (aB now p e F1 F2=bj (aU now p [] (0,[]) ai ai) ⟨ee e (bF (gr e) (ar p.data).1),F1,F2,[],[]⟩ (im 9)):=aa (by unfold aB;rw[if_neg h1,if_neg h2,if_pos hc,if_pos hi,if_pos h0,if_pos h3]);have HFX:Hid (Fit 0 (aU now p [] (0,[]) ai ai) ⟨ee e (bF (gr e) (ar p.data).1),F1,F2,[],[]⟩):=aa (hf2.asks (gK (eF hk) _));rw[h3]at c31;clear hk hf2 hf hp hs hr h1 h2 hc hi h0 h3 CW;generalize bF (gr e) (ar p.data).1=XX at*;obtain⟨k6,k7,k8,k9,k10,k11⟩:=uh KC _ E3.out.1;have f6:=E3.out.1.frz 6;go_wp2_with fail
    refine(uh CL _ E3.out.2.2).mono ?_;rintro r z4⟨rfl,hb4⟩;have E4:=aa (zA (E3.out.1.step hb4) ((hb4.block _ (ge.1 E3.out.2.1).1).trans E3.out.2.1));clear hb4 k6 k7 k8 k9 k10 k11 f6 CL E3;obtain⟨k6,k7,k8,k9,k10,k11⟩:=uh KC _ E4.out.1;have f6:=E4.out.1.frz 6;have f7:=E4.out.1.frz 7;have f8:=E4.out.1.frz 8;have f9:=E4.out.1.frz 9;have f10:=E4.out.1.frz 10;have f11:=E4.out.1.frz 11;go_upto_region 9 with fail
    refine bb (fun z=>Lay 99 w0 w1 B (aU now p [] (0,[]) ai ai) ⟨ee e XX,F1,F2,[],[]⟩ v1 v2 ai ai z/\z.heap[X]?=some (.cells k_ 74)) ?_ ?_
    .exact ⟨E4.out.1.asks9 XX,(gJ hXB _ _ _ _ _ _).trans E4.out.2⟩
    clear k6 k7 k8 k9 k10 k11 f6 f7 f8 f9 f10 f11 E4 KC;intro z5 hz5;have E5:=aa hz5;have CE:=aa (dR w0 w1 B (aU now p [] (0,[]) ai ai) ⟨ee e XX,F1,F2,[],[]⟩ v1 v2 z5 hz5.1 rfl rfl HFX.out ⟨#[82,67,78]⟩ (by decide) (fun a ha=>bK _ a ((aO (i:=9) (c:=aU now p [] (0,[]) ai ai) rfl HST.out.1 HST.out.2 (fun h=>absurd h (by decide)) (fun h=>absurd h (by decide))).1 a ha)) (aO (i:=9) (c:=aU now p [] (0,[]) ai ai) rfl HST.out.1 HST.out.2 (fun h=>absurd h (by decide)) (fun h=>absurd h (by decide))).2);clear hz5;have HH2:Hid (aB now p e F1 F2=bj (aU now p [] (0,[]) ai ai) ⟨ee e XX,F1,F2,[],[]⟩ ⟨#[82,67,78]⟩):=HH;clear HH;generalize bj (aU now p [] (0,[]) ai ai) ⟨ee e XX,F1,F2,[],[]⟩ ⟨#[82,67,78]⟩=EV at*;go_wp2_with fail
    refine CE.out.mono ?_;rintro r z6⟨hE,hnr⟩;clear CE;obtain⟨cs,rfl,hsz,hall,hX2,hEv⟩:=hE.outN hnr E5.out.2 hXB hXw;have HE2:=aa (zA hX2 hEv);clear hE hX2 hEv hnr
    go_wp2_with (first
     | (refine wpList_store_rowTo rfl 74 (.tmp 2) (.tmp 58) rfl rfl X cs rfl rfl 74 k_ HE2.out.1 (by rw[hsz];exact aw) (by rw[hsz];rfl) hall ?_))
    refine bodyPost_ret (v:=.agg cs) (by simp[results,results77,asAddr,Act.put,de (setRow_heap z6 X _ cs _ _ HE2.out.1) hsz]) rfl ?_;rw[uh HH2];exact HE2.out.2
   .have HH:Hid (aB now p e F1 F2=bj (aU now p [] (0,[]) ai ai) ⟨ee e (gI (gr e) (ar p.data).1),F1,F2,[],[]⟩ (im 9)):=aa (by unfold aB;rw[if_neg h1,if_neg h2,if_pos hc,if_pos hi,if_pos h0,if_neg h3]);have HFX:Hid (Fit 0 (aU now p [] (0,[]) ai ai) ⟨ee e (gI (gr e) (ar p.data).1),F1,F2,[],[]⟩):=aa (hf2.asks (nf (eF hk) _));have h4:p.code=4:=by omega
    rw[h4]at c31;clear hk hf2 hf hp hs hr h1 h2 hc hi h0 h3 h4 CL;generalize gI (gr e) (ar p.data).1=XX at*;obtain⟨k6,k7,k8,k9,k10,k11⟩:=uh KC _ E3.out.1;have f6:=E3.out.1.frz 6;go_wp2_with fail
    refine(uh CW _ E3.out.2.2).mono ?_;rintro r z4⟨rfl,hb4⟩;have E4:=aa (zA (E3.out.1.step hb4) ((hb4.block _ (ge.1 E3.out.2.1).1).trans E3.out.2.1));clear hb4 k6 k7 k8 k9 k10 k11 f6 CW E3;obtain⟨k6,k7,k8,k9,k10,k11⟩:=uh KC _ E4.out.1;have f6:=E4.out.1.frz 6;have f7:=E4.out.1.frz 7;have f8:=E4.out.1.frz 8;have f9:=E4.out.1.frz 9;have f10:=E4.out.1.frz 10;have f11:=E4.out.1.frz 11;go_upto_region 9 with fail
    refine bb (fun z=>Lay 99 w0 w1 B (aU now p [] (0,[]) ai ai) ⟨ee e XX,F1,F2,[],[]⟩ v1 v2 ai ai z/\z.heap[X]?=some (.cells k_ 74)) ?_ ?_
    .exact ⟨E4.out.1.asks9 XX,(gJ hXB _ _ _ _ _ _).trans E4.out.2⟩
    clear k6 k7 k8 k9 k10 k11 f6 f7 f8 f9 f10 f11 E4 KC;intro z5 hz5;have E5:=aa hz5;have CE:=aa (dR w0 w1 B (aU now p [] (0,[]) ai ai) ⟨ee e XX,F1,F2,[],[]⟩ v1 v2 z5 hz5.1 rfl rfl HFX.out ⟨#[82,67,78]⟩ (by decide) (fun a ha=>bK _ a ((aO (i:=9) (c:=aU now p [] (0,[]) ai ai) rfl HST.out.1 HST.out.2 (fun h=>absurd h (by decide)) (fun h=>absurd h (by decide))).1 a ha)) (aO (i:=9) (c:=aU now p [] (0,[]) ai ai) rfl HST.out.1 HST.out.2 (fun h=>absurd h (by decide)) (fun h=>absurd h (by decide))).2);clear hz5;have HH2:Hid (aB now p e F1 F2=bj (aU now p [] (0,[]) ai ai) ⟨ee e XX,F1,F2,[],[]⟩ ⟨#[82,67,78]⟩):=HH;clear HH;generalize bj (aU now p [] (0,[]) ai ai) ⟨ee e XX,F1,F2,[],[]⟩ ⟨#[82,67,78]⟩=EV at*;go_wp2_with fail
    refine CE.out.mono ?_;rintro r z6⟨hE,hnr⟩;clear CE;obtain⟨cs,rfl,hsz,hall,hX2,hEv⟩:=hE.outN hnr E5.out.2 hXB hXw;have HE2:=aa (zA hX2 hEv);clear hE hX2 hEv hnr
    go_wp2_with (first
     | (refine wpList_store_rowTo rfl 74 (.tmp 2) (.tmp 58) rfl rfl X cs rfl rfl 74 k_ HE2.out.1 (by rw[hsz];exact aw) (by rw[hsz];rfl) hall ?_))
    refine bodyPost_ret (v:=.agg cs) (by simp[results,results77,asAddr,Act.put,de (setRow_heap z6 X _ cs _ _ HE2.out.1) hsz]) rfl ?_;rw[uh HH2];exact HE2.out.2
  .have HH:Hid (aB now p e F1 F2=bA 3):=aa (by unfold aB;rw[if_neg h1,if_neg h2,if_pos hc,if_pos hi,if_neg h0,od hs h0]);have hd0:decide ((ar p.data).2=0)=false:=decide_eq_false h0;have E3:=aa (zA (E2.out.1.step hb3) ((hb3.block _ (ge.1 E2.out.2).1).trans E2.out.2));rw[hd0];clear hyes hb3 E2 c33 CO hd0 hk hf2 hf hp hs hr h1 h2 hc hi h0 KC
   go_wp2_with (first
    | (refine wpList_buildTo rfl 74 _ rfl (some 28) rfl (aC ag () () () () 3) (by as_aux_lemma=>kernel_rfl) ?_)
    | (refine wpList_store_rowTo rfl 74 (.tmp 2) (.tmp 28) rfl rfl X (aC ag () () () () 3) rfl rfl 74 k_ E3.out.2 aw rfl (aG _ _ _ _ _ _ _ _ _ _ _ _ _ _) ?_))
   refine bodyPost_ret (v:=.agg (aC ag () () () () 3)) (by simp[results,results77,asAddr,Act.put,de (setRow_heap z3 X _ (aC ag () () () () 3) _ _ E3.out.2)]) rfl ?_;rw[uh HH];exact bE (am E3.out.1.low hXw _) 3
 .have HH:Hid (aB now p e F1 F2=bA 8):=aa (by unfold aB;rw[if_neg h1,if_neg h2,if_pos hc,if_neg hi]);have hb0:(p.id != e.id)=true:=by simpa using hi
  have hb1:(p.id==e.id)=false:=by simpa using hi
  clear hk hf2 hf hp hs hr h1 h2 hc hi KC CO;go_quiet (fail)
  have E2:Hid (Lay 99 w0 w1 B (aU now p [] (0,[]) ai ai) ⟨e,F1,F2,[],[]⟩ v1 v2 ai ai (z1.drewN nq)/\(z1.drewN nq).heap[X]?=some (.cells k_ 74)):=aa ⟨E1.out.1.step (aH (zC _ _) _),E1.out.2⟩;generalize z1.drewN nq=z2 at*;clear E1 c32 c15
  go_wp2_with (first
   | (refine wpList_buildTo rfl 74 _ rfl (some 16) rfl (aC ag () () () () 8) (by as_aux_lemma=>kernel_rfl) ?_)
   | (refine wpList_store_rowTo rfl 74 (.tmp 2) (.tmp 16) rfl rfl X (aC ag () () () () 8) rfl rfl 74 k_ E2.out.2 aw rfl (aG _ _ _ _ _ _ _ _ _ _ _ _ _ _) ?_))
  refine bodyPost_ret (v:=.agg (aC ag () () () () 8)) (by simp[results,results77,asAddr,Act.put,de (setRow_heap z2 X _ (aC ag () () () () 8) _ _ E2.out.2)]) rfl ?_;rw[uh HH];exact bE (am E2.out.1.low hXw _) 8
end Go.Proofs.YtjdgiimfpkideaaGreatDoor
