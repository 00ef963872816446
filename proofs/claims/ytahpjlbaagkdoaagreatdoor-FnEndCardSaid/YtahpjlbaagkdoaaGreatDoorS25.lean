/- HrA WkL HrK HrP -/
import Derived.Test.YtahpjlbaagkdoaaGreatDoorS24
import Derived.Lib.SliceRun
set_option maxHeartbeats 8000000
set_option maxRecDepth 100000
set_option linter.unusedSimpArgs false
namespace Go.Proofs.YtahpjlbaagkdoaaGreatDoor
open Go.RowKit Go.Proofs.Tryz
theorem of_toList9 {t u:ByteArray} (h:t.toList=u.toList):t=u:=by
 rw [ByteArray.toList_eq,ByteArray.toList_eq] at h;exact ByteArray.ext (Array.ext' h)
theorem iTakeAck {w0 w1:World} {B n:Nat} {c:Cx} {s:St} {v1 v2 vs vt:Value} {q:World} (h:Lay 83 w0 w1 B c s v1 v2 vs vt q) (hf:Fit n c s) :
  Calls prog 92 #[.pointer (some ⟨B,0,none⟩)] q fun r q'=>Lay 83 w0 w1 B c s v1 v2 vs vt q'∧r=.returned (.tuple #[.int .i64 (if c.ci=s.e.id∧c.cd=txt (Op.bytes s.F1) then 8 else 0),.int .i64 (if c.ci=s.e.id∧c.cd=txt (Op.bytes s.F1) then 0 else 8)]):=by
 have hm:s.F1.length≤maxLen:=by have:=Op.right_len (opOk_right hf.f1);unfold maxLen;omega
 have CB:Hid (∀ z,Lay 83 w0 w1 B c s v1 v2 vs vt z→Calls prog 113 #[v1] z fun e w'=>e=.returned (.string (otV s.F1))∧Below z.heap.size z w'):=hide fun z hz=>implBytesAll v1 s.F1 z hm (HoldsO.own hz.o1)
 have HE:Hid (∀ z,Lay 83 w0 w1 B c s v1 v2 vs vt z→z.cell? ⟨B,32,none⟩=some (.int .i64 c.ci)∧z.cell? ⟨B,15,none⟩=some (.int .i64 s.e.id)∧z.cell? ⟨B,33,none⟩=some (.string c.cd)∧z.cell? ⟨B,17,none⟩=some v1):=hide fun z h3=>And.intro (h3.cell (i:=32) rfl) (And.intro (h3.cell (i:=15) rfl) (And.intro (h3.cell (i:=33) rfl) (h3.cell (i:=17) rfl)))
 have ho:otV s.F1=txt (Op.bytes s.F1):=by unfold otV Op.told;rw [if_pos (opOk_right hf.f1)]
 rw [ho] at CB;have HL:=hide h;clear h hm hf ho;generalize txt (Op.bytes s.F1)=u at *;generalize c.ci=x at *;generalize s.e.id=y at *;generalize c.cd=t at *;by_cases hi:x=y
 ·subst hi;by_cases hu:t=u
  ·subst hu;rw [if_pos ⟨rfl,rfl⟩,if_pos ⟨rfl,rfl⟩];go_enter func92,ntmps92
   go_upto_region 1 with fail
   have E1:=hide ((uh HL).step (Below.refl _ _).drew);refine wp_region_held_drew (S:=fun y9=>y9.cell? ⟨B,32,none⟩=some (.int .i64 x)∧y9.cell? ⟨B,15,none⟩=some (.int .i64 x)∧y9.cell? ⟨B,33,none⟩=some (.string t)∧y9.cell? ⟨B,17,none⟩=some v1) (by kernel_rfl) (uh HE _ (uh E1)) (fun hHeld=>?_);generalize q.drew=yy at E1 hHeld ⊢;clear HL;refine t2 0 ?_;refine t2 1 ?_;refine t2 2 ?_;refine t2 3 ?_;refine t2 4 ?_;refine t2 5 ?_;refine t2 6 ?_;refine t2 7 ?_;refine t2 8 ?_;refine t2 9 ?_;refine t2 10 ?_;refine t2 11 ?_;refine t2 12 ?_;refine t2 13 ?_;refine t2 14 ?_;refine t2 15 ?_;refine t2 16 ?_;refine t2 17 ?_;refine t2 18 ?_;refine t2 19 ?_;refine t2 20 ?_;refine t2 21 ?_;refine r1 22 rfl (fun K hK=>?_);go_simp;refine (uh CB _ (uh E1)).mono ?_;rintro e z3 ⟨rfl,hb3⟩;have E3:=hide ((uh E1).step hb3);clear hb3;go_wp2_with fail
   refine ro hK (uh HE _ (uh E3)) fun _=>?_
   clear hK K;refine t2 23 ?_;refine t2 24 ?_;refine dn ?_ _;go_wp2
   refine bodyPost_ret (v:=.tuple #[.int .i64 8,.int .i64 0]) (by simp [results,results92,go_sem]) rfl ⟨uh E3,rfl⟩
  ·rw [if_neg fun h=>hu h.2,if_neg fun h=>hu h.2];have hu2:(t.toList != u.toList)=true:=by
    rw [bne_iff_ne];intro e;exact hu (of_toList9 e)
   have hu3:(t.toList == u.toList)=false:=by
    rw [beq_eq_false_iff_ne];intro e;exact hu (of_toList9 e)
   go_enter func92,ntmps92
   go_upto_region 1 with fail
   have E1:=hide ((uh HL).step (Below.refl _ _).drew);refine wp_region_held_drew (S:=fun y9=>y9.cell? ⟨B,32,none⟩=some (.int .i64 x)∧y9.cell? ⟨B,15,none⟩=some (.int .i64 x)∧y9.cell? ⟨B,33,none⟩=some (.string t)∧y9.cell? ⟨B,17,none⟩=some v1) (by kernel_rfl) (uh HE _ (uh E1)) (fun hHeld=>?_);generalize q.drew=yy at E1 hHeld ⊢;clear HL;refine t2 0 ?_;refine t2 1 ?_;refine t2 2 ?_;refine t2 3 ?_;refine t2 4 ?_;refine t2 5 ?_;refine t2 6 ?_;refine t2 7 ?_;refine t2 8 ?_;refine t2 9 ?_;refine t2 10 ?_;refine t2 11 ?_;refine t2 12 ?_;refine t2 13 ?_;refine t2 14 ?_;refine t2 15 ?_;refine t2 16 ?_;refine t2 17 ?_;refine t2 18 ?_;refine t2 19 ?_;refine t2 20 ?_;refine t2 21 ?_;refine r1 22 rfl (fun K hK=>?_);go_simp;refine (uh CB _ (uh E1)).mono ?_;rintro e z3 ⟨rfl,hb3⟩;have E3:=hide ((uh E1).step hb3);clear hb3;go_wp2_with fail
   refine ro hK (uh HE _ (uh E3)) fun _=>?_
   clear hK K;refine t2 23 ?_;refine t2 24 ?_;refine dn ?_ _;go_wp2
   refine bodyPost_ret (v:=.tuple #[.int .i64 0,.int .i64 8]) (by simp [results,results92,go_sem]) rfl ⟨uh E3,rfl⟩
 ·rw [if_neg fun h=>hi h.1,if_neg fun h=>hi h.1];have hi2:(x != y)=true:=by simpa using hi
  have hi3:(x == y)=false:=by simpa using hi
  go_enter func92,ntmps92
  go_upto_region 1 with fail
  have E1:=hide ((uh HL).step (Below.refl _ _).drew);refine wp_region_held_drew (S:=fun y9=>y9.cell? ⟨B,32,none⟩=some (.int .i64 x)∧y9.cell? ⟨B,15,none⟩=some (.int .i64 y)∧y9.cell? ⟨B,33,none⟩=some (.string t)∧y9.cell? ⟨B,17,none⟩=some v1) (by kernel_rfl) (uh HE _ (uh E1)) (fun hHeld=>?_);generalize q.drew=yy at E1 hHeld ⊢;clear HL;refine t2 0 ?_;refine t2 1 ?_;refine t2 2 ?_;refine t2 3 ?_;refine t2 4 ?_;refine t2 5 ?_;refine t2 6 ?_;refine t2 7 ?_;refine t2 8 ?_;refine t2 9 ?_;refine t2 10 ?_;refine t2 11 ?_;refine t5 12 ?_;refine t5 13 ?_;refine t5 14 ?_;refine t5 15 ?_;refine t5 16 ?_;refine t5 17 ?_;refine t5 18 ?_;refine t5 19 ?_;refine t5 20 ?_;refine t5 21 ?_;refine t5 22 ?_;refine t5 23 ?_;refine t2 24 ?_;refine dn ?_ _;go_wp2
  refine bodyPost_ret (v:=.tuple #[.int .i64 0,.int .i64 8]) (by simp [results,results92,go_sem]) rfl ⟨uh E1,rfl⟩
theorem iSame (v:Value) (F:List Op.Opt) (w:World) (hr:Op.right F=true) (h:HoldsO w v F):Calls prog 83 #[v] w fun e w'=>∃ ad cp,e=.returned (.slice ad F.length cp)∧w'.ownsRow w.heap.size 116 2 (.slice ad F.length cp) F.length (ocells F)∧Below w.heap.size w w':=by
 have hl20:F.length≤20:=by
  unfold Op.right at hr;rw [Bool.and_eq_true] at hr;exact of_decide_eq_true hr.1
 have hok:∀ o ∈ F,o.data.size≤20:=by
  unfold Op.right at hr;rw [Bool.and_eq_true] at hr;exact fun o ho=>(of_decide_eq_true (List.all_eq_true.1 hr.2 o ho)).2.2
 have HH:=hide h;obtain ⟨va,vc,rfl⟩:=h.form;obtain ⟨n,hn⟩:∃ n,F.length=n:=⟨_,rfl⟩;rw [hn] at HH hl20 ⊢;clear h hr;go_enter func83,ntmps83
 go_wp2_with fail
 go_loopw [3,8] (fun x y wr=>∃ (i:Nat) (ad:Option Addr) (cp:Nat),i≤n∧y=.int .i64 i∧x=.slice ad (F.take i).length cp∧wr.ownsRow w.heap.size 116 2 (.slice ad (F.take i).length cp) (F.take i).length (ocells (F.take i))∧Below w.heap.size w wr) (fun x y wr=>n - (intOf y).toNat)
 case atStart=>exact ⟨0,none,0,Nat.zero_le _,rfl,rfl,⟨rfl,Or.inl ⟨rfl,rfl⟩⟩,Below.refl _ _⟩
 case round =>
  obtain ⟨i,ad,cp,hi,rfl,rfl,ho,hb⟩:=hrel;have hbs:=hb.size;have HO:=hide ho;have HB:=hide hb;by_cases hlt:i<n
  ·have d1:(i:Int)<(n:Int):=by omega
   have d0:(0:Int)≤(i:Int):=by omega
   obtain ⟨g,⟨cp',hv⟩,hgl,k0,k1⟩:=HoldsO.at ((uh HH).below hb rfl) i (by omega);injection hv with hv hv2 hv3;subst hv hv3;clear hv2;have hsz:=hok (F[i]'(by omega)) (List.getElem_mem _);have HS:Hid (F.take (i+1)=F.take i ++ [F[i]'(by omega)]):=hide (List.take_succ_eq_append_getElem (by omega));have hLl:(F.take i).length≤i:=by rw [List.length_take];omega
   generalize F[i]'(by omega)=o at *;generalize F.take i=L at *;obtain ⟨kd,dt⟩:=o;dsimp only at k0 k1 hsz;have CS:=hide fun W=>sameOpt kd dt W hsz
   clear ho hb HH hok;go_wp2_with fail
   refine (uh CS _).mono ?_;rintro e w5 ⟨rfl,hb5⟩;have HB5:=hide ((((uh HB).alloc hbs _)).trans (hb5.mono (Nat.le_trans hbs (by simp))));have HO5:=hide (own_below ((uh HO).alloc _) hb5);have hbs5:=(uh HB5).size;clear hb5
   go_wp2_with (first
    | (at_builtin;refine append_opt rfl _ _ rfl w.heap.size (.slice ad L.length cp) L L.length rfl rfl (uh HO5) kd dt rfl (by omega) hbs5 ?_;rintro v6 w6 ho6 hg6;obtain ⟨a6,c6,rfl⟩:=own_form ho6))
   have hb6:Below w.heap.size w w6:=((uh HB5).alloc hbs5 _).grown hg6 (by simp;omega) (fun q hq=>(World.ownsRow.lt (uh HO5) q hq).1);go_roundw
   case rel=>exact ⟨i+1,a6,c6,by omega,by go_num,by rw [uh HS,List.length_append];rfl,by rw [uh HS,List.length_append];exact ho6,hb6⟩
   case measure=>simp [intOf];omega
  ·have e:i=n:=by omega
   subst e;have HT:Hid (F.take i=F):=hide (List.take_of_length_le (by omega));clear ho hb HH;go_wp2
   go_ret
   rw [uh HT] at HO ⊢;rw [hn] at HO ⊢;exact ⟨ad,cp,rfl,uh HO,uh HB⟩
theorem iTime (now:Int) (w:World):Calls prog 37 #[.int .i64 now] w fun e w'=>e=.returned (.bool (within 0 1000000000 now))∧w'=w:=by
 have C:=hide (implWithin now 0 1000000000 w);go_enter func37,ntmps37
 go_wp2_with fail
 refine (uh C).mono ?_;rintro r ws ⟨rfl,hws⟩;replace hws:=hws.symm;subst hws;go_wp2
 go_ret
 exact ⟨rfl,rfl⟩
end Go.Proofs.YtahpjlbaagkdoaaGreatDoor
namespace Go.Proofs.YtahpjlbaagkdoaaGreatDoor
open Go.RowKit Go.Proofs.Tryz
abbrev opV (o:Op.Opt):Value:=.agg #[.int .i64 o.kind,.string o.data]
def IdxA (p:Op.Opt→Bool) (L:List Op.Opt) (r:Int):Prop:=(r=-1∧∀ j (h:j<L.length),p L[j]=false)∨∃ k,∃ h:k<L.length,r=(k:Int)∧p L[k]=true∧∀ j (h:j<L.length),j<k→p L[j]=false
theorem IdxA.any {p:Op.Opt→Bool} {L:List Op.Opt} {r:Int} (h:IdxA p L r):decide (0≤r)=L.any p:=by
 rcases h with ⟨rfl,h⟩ | ⟨k,hk,rfl,h,_⟩
 ·have:L.any p=false:=List.any_eq_false.2 fun x hx=>by
   obtain ⟨j,hj,rfl⟩:=List.getElem_of_mem hx;rw [h j hj];decide
  rw [this];rfl
 ·rw [List.any_eq_true.2 ⟨_,List.getElem_mem hk,h⟩];exact decide_eq_true (by omega)
theorem idxI (lb:Array Value) (p:Op.Opt→Bool) (v:Value) (L:List Op.Opt) (w:World) (hl:L.length≤1000) (hL:HoldsO w v L)
  (hp:∀ (W:World) (x:Op.Opt),Below w.heap.size w W→Calls prog 162 (#[opV x] ++ lb) W fun e w'=>e=.returned (.bool (p x))∧Below W.heap.size W w') :
  Calls prog 203 #[v,.func (.func 162) #[] lb] w fun e w'=>∃ r:Int,e=.returned (.int .i64 r)∧IdxA p L r∧Below w.heap.size w w':=by
 have HL:=hide hL;obtain ⟨va,vc,rfl⟩:=hL.form;obtain ⟨n,hn⟩:∃ n,L.length=n:=⟨_,rfl⟩;rw [hn] at HL hl ⊢;clear hL;have HP:=hide hp;clear hp;go_enter func203,ntmps203
 go_wp2
 go_loopw [5,8] (fun _ y wr=>∃ k:Nat,k≤n∧y=.int .i64 k∧Hid (Below w.heap.size w wr∧∀ j (h:j<L.length),j<k→p L[j]=false)) (fun _ y _=>n - (intOf y).toNat)
 case atStart=>exact ⟨0,Nat.zero_le _,rfl,hide ⟨Below.refl _ _,fun j _ h=>absurd h (Nat.not_lt_zero _)⟩⟩
 case round =>
  obtain ⟨k,hk,rfl,HB⟩:=hrel;by_cases hlt:k<n
  ·have d1:(k:Int)<(n:Int):=by omega
   have d0:(0:Int)≤(k:Int):=by omega
   obtain ⟨G,⟨cp',hv⟩,hgl,k0,k1⟩:=HoldsO.at ((uh HL).below (uh HB).1 rfl) k (by omega);injection hv with hv hv2 hv3;subst hv hv3;clear hv2;have hcall:=uh HP wr (L[k]'(by omega)) (uh HB).1;have HK:Hid (∀ b,p (L[k]'(by omega))=b→p (L[k]'(by omega))=b):=hide fun _ h=>h
   obtain ⟨o,ho⟩:∃ o,L[k]'(by omega)=o:=⟨_,rfl⟩;rw [ho] at k0 k1 hcall;have HO:=hide ho;clear ho HK;obtain ⟨kd,dt⟩:=o;dsimp only at k0 k1;cases hq:p ⟨kd,dt⟩ with
   | true =>
    rw [hq] at hcall;have HQ:=hide hq;clear hq;go_wp2_with fail
    refine hcall.mono ?_;rintro e w' ⟨rfl,hb'⟩;clear hcall;go_wp2
    go_ret
    refine ⟨(k:Int),rfl,Or.inr ⟨k,by omega,rfl,by rw [uh HO];exact uh HQ,(uh HB).2⟩,(uh HB).1.trans (hb'.mono (uh HB).1.size)⟩
   | false =>
    rw [hq] at hcall;have HQ:=hide hq;clear hq;go_wp2_with fail
    refine hcall.mono ?_;rintro e w' ⟨rfl,hb'⟩;clear hcall;go_wp2_with fail
    go_roundw
    case rel =>
     refine ⟨k+1,by omega,by go_num,hide ⟨(uh HB).1.trans (hb'.mono (uh HB).1.size),fun j hj hjk=>?_⟩⟩;by_cases e:j=k
     ·subst e;rw [uh HO];exact uh HQ
     ·exact (uh HB).2 j hj (by omega)
    case measure=>simp [intOf];omega
  ·have d1:¬ (k:Int)<(n:Int):=by omega
   go_wp2
   go_ret
   exact ⟨-1,rfl,Or.inl ⟨rfl,fun j hj=>(uh HB).2 j hj (by omega)⟩,(uh HB).1⟩
theorem idxO (lb:Array Value) (p:Op.Opt→Bool) (v:Value) (L:List Op.Opt) (w:World) (hl:L.length≤1000) (hL:HoldsO w v L)
  (hp:∀ (W:World) (x:Op.Opt),Below w.heap.size w W→Calls prog 160 (#[opV x] ++ lb) W fun e w'=>e=.returned (.bool (p x))∧Below W.heap.size W w') :
  Calls prog 203 #[v,.func (.func 160) #[] lb] w fun e w'=>∃ r:Int,e=.returned (.int .i64 r)∧IdxA p L r∧Below w.heap.size w w':=by
 have HL:=hide hL;obtain ⟨va,vc,rfl⟩:=hL.form;obtain ⟨n,hn⟩:∃ n,L.length=n:=⟨_,rfl⟩;rw [hn] at HL hl ⊢;clear hL;have HP:=hide hp;clear hp;go_enter func203,ntmps203
 go_wp2
 go_loopw [5,8] (fun _ y wr=>∃ k:Nat,k≤n∧y=.int .i64 k∧Hid (Below w.heap.size w wr∧∀ j (h:j<L.length),j<k→p L[j]=false)) (fun _ y _=>n - (intOf y).toNat)
 case atStart=>exact ⟨0,Nat.zero_le _,rfl,hide ⟨Below.refl _ _,fun j _ h=>absurd h (Nat.not_lt_zero _)⟩⟩
 case round =>
  obtain ⟨k,hk,rfl,HB⟩:=hrel;by_cases hlt:k<n
  ·have d1:(k:Int)<(n:Int):=by omega
   have d0:(0:Int)≤(k:Int):=by omega
   obtain ⟨G,⟨cp',hv⟩,hgl,k0,k1⟩:=HoldsO.at ((uh HL).below (uh HB).1 rfl) k (by omega);injection hv with hv hv2 hv3;subst hv hv3;clear hv2;have hcall:=uh HP wr (L[k]'(by omega)) (uh HB).1;have HK:Hid (∀ b,p (L[k]'(by omega))=b→p (L[k]'(by omega))=b):=hide fun _ h=>h
   obtain ⟨o,ho⟩:∃ o,L[k]'(by omega)=o:=⟨_,rfl⟩;rw [ho] at k0 k1 hcall;have HO:=hide ho;clear ho HK;obtain ⟨kd,dt⟩:=o;dsimp only at k0 k1;cases hq:p ⟨kd,dt⟩ with
   | true =>
    rw [hq] at hcall;have HQ:=hide hq;clear hq;go_wp2_with fail
    refine hcall.mono ?_;rintro e w' ⟨rfl,hb'⟩;clear hcall;go_wp2
    go_ret
    refine ⟨(k:Int),rfl,Or.inr ⟨k,by omega,rfl,by rw [uh HO];exact uh HQ,(uh HB).2⟩,(uh HB).1.trans (hb'.mono (uh HB).1.size)⟩
   | false =>
    rw [hq] at hcall;have HQ:=hide hq;clear hq;go_wp2_with fail
    refine hcall.mono ?_;rintro e w' ⟨rfl,hb'⟩;clear hcall;go_wp2_with fail
    go_roundw
    case rel =>
     refine ⟨k+1,by omega,by go_num,hide ⟨(uh HB).1.trans (hb'.mono (uh HB).1.size),fun j hj hjk=>?_⟩⟩;by_cases e:j=k
     ·subst e;rw [uh HO];exact uh HQ
     ·exact (uh HB).2 j hj (by omega)
    case measure=>simp [intOf];omega
  ·have d1:¬ (k:Int)<(n:Int):=by omega
   go_wp2
   go_ret
   exact ⟨-1,rfl,Or.inl ⟨rfl,fun j hj=>(uh HB).2 j hj (by omega)⟩,(uh HB).1⟩
theorem conF (lb:Array Value) (p:Op.Opt→Bool) (v:Value) (L:List Op.Opt) (w:World) (hl:L.length≤1000) (hL:HoldsO w v L)
  (hp:∀ (W:World) (x:Op.Opt),Below w.heap.size w W→Calls prog 162 (#[opV x] ++ lb) W fun e w'=>e=.returned (.bool (p x))∧Below W.heap.size W w') :
  Calls prog 161 #[v,.func (.func 162) #[] lb] w fun e w'=>e=.returned (.bool (L.any p))∧Below w.heap.size w w':=by
 have C:=hide (idxI lb p v L w hl hL hp);clear hp hL;go_enter func161,ntmps161
 go_wp2_with fail
 refine (uh C).mono ?_;rintro e w' ⟨r,rfl,hr,hb⟩;have HR:=hide hr.any;clear hr C;go_wp2
 go_ret
 refine ⟨?_,hb⟩;rw [← uh HR];rfl
theorem inK (x:Op.Opt) (k:Int) (O:Nat) (W:World) (h:W.cell? ⟨O,0,none⟩=some (.int .i64 k)) :
  Calls prog 162 #[opV x,.pointer (some ⟨O,0,none⟩)] W fun e w'=>e=.returned (.bool (x.kind == k))∧Below W.heap.size W w':=by
 have hlt:=World.block_lt_of_cell? W _ h;have hne:¬ (O=W.heap.size):=Nat.ne_of_lt hlt;have hne2:¬ (W.heap.size=O):=fun e=>hne e.symm
 obtain ⟨kd,dt⟩:=x;have c2:(W.alloc (.cells #[.int .i64 kd,.string dt] 116)).cell? ⟨O,0,none⟩=some (.int .i64 k):=by
  rw [((Below.refl W.heap.size W).alloc (Nat.le_refl _) _).cell (p:=⟨O,0,none⟩) hlt];exact h
 go_enter func162,ntmps162
 go_wp2
 go_ret
 exact ⟨rfl,(Below.refl _ _).alloc (Nat.le_refl _) _⟩
theorem delK (x:Op.Opt) (v:Value) (Os:List Op.Opt) (O:Nat) (W:World) (hl:Os.length≤1000) (h:W.cell? ⟨O,0,none⟩=some v) (hO:HoldsO W v Os) :
  Calls prog 160 #[opV x,.pointer (some ⟨O,0,none⟩)] W fun e w'=>e=.returned (.bool (!(Os.any fun y=>y.kind == x.kind)))∧Below W.heap.size W w':=by
 have hlt:=World.block_lt_of_cell? W _ h;obtain ⟨kd,dt⟩:=x;have hbA:Below W.heap.size W (W.alloc (.cells #[.int .i64 kd,.string dt] 116)):=(Below.refl _ _).alloc (Nat.le_refl _) _;have c2:(W.alloc (.cells #[.int .i64 kd,.string dt] 116)).cell? ⟨O,0,none⟩=some v:=by
  rw [hbA.cell (p:=⟨O,0,none⟩) hlt];exact h
 have hx:(W.alloc (.cells #[.int .i64 kd,.string dt] 116)).cell? ⟨W.heap.size,0,none⟩=some (.int .i64 kd):=by
  rw [cr (heap_alloc_new W _)];rfl
 have hxl:W.heap.size<(W.alloc (.cells #[.int .i64 kd,.string dt] 116)).heap.size:=by simp
 have C:=hide (conF #[.pointer (some ⟨W.heap.size,0,none⟩)] (fun y=>y.kind == kd) v Os (W.alloc (.cells #[.int .i64 kd,.string dt] 116)) hl (hO.below hbA rfl) (fun W' y hb=>inK y kd W.heap.size W' ((hb.cell (p:=⟨W.heap.size,0,none⟩) hxl).trans hx)));obtain ⟨va,vc,rfl⟩:=hO.form;clear hx hxl hO h hlt;go_enter func160,ntmps160
 go_wp2_with fail
 refine (uh C).mono ?_;rintro e w' ⟨rfl,hb⟩;clear C;go_wp2
 go_ret
 exact ⟨rfl,hbA.trans (hb.mono hbA.size)⟩
theorem setCells_rowO {T:TypeId} {g:Nat}:∀ (vs:List Value) (o:Nat) (W:World) (cur:Array Value),W.heap[g]?=some (.cells cur T)→o+vs.length≤cur.size →
  ∃ cur',(W.setCells g o vs).heap[g]?=some (.cells cur' T)∧cur'.size=cur.size∧∀ k,k<o→cur'[k]?=cur[k]?
 | [],_,_,cur,h,_=>⟨cur,h,rfl,fun _ _=>rfl⟩
 | v :: vs,o,W,cur,h,hl=>by
  rw [List.length_cons] at hl;obtain ⟨cur',h1,h2,h3⟩:=setCells_rowO vs (o+1) (W.setCell ⟨g,o,none⟩ v) (cur.setIfInBounds o v) (heap_setCell_same _ _ o _ _ v h) (by rw [Array.size_setIfInBounds];omega);exact ⟨cur',h1,by rw [h2,Array.size_setIfInBounds],fun k hk=>by rw [h3 k (by omega),Array.getElem?_setIfInBounds,if_neg (by omega)]⟩
theorem below_setO {n g:Nat} {a:World} (hg:n≤g):∀ (vs:List Value) (o:Nat) (W:World),Below n a W→Below n a (W.setCells g o vs)
 | [],_,_,h=>h
 | v :: vs,o,W,h=>below_setO hg vs (o+1) (W.setCell ⟨g,o,none⟩ v) (h.setCell (p:=⟨g,o,none⟩) hg v)
theorem zeroC_all (n:Nat):((Builtin.zeroCells #[.int .i64 0,.string ⟨#[]⟩] n).toList.length=n*2)∧∀ u ∈ (Builtin.zeroCells #[.int .i64 0,.string ⟨#[]⟩] n).toList,u.oneCell'=true:=by
 refine ⟨by simp [Builtin.zeroCells],fun u hu=>?_⟩;simp [Builtin.zeroCells] at hu;obtain ⟨i,_,rfl⟩:=hu;have h2:i % 2=0∨i % 2=1:=by omega
 rcases h2 with h | h<;>rw [h]<;>rfl
theorem run_clearO (w:World) (ty:TypeId) (b o n c:Nat) (hn:0<n) (hc:∀ j,j<n*2→(w.cell? ⟨b,o+j,none⟩).isSome=true) (hf:∀ j,j<n*2→w.frozen? ⟨b,o+j,none⟩=false) :
  ∃ zs:List Value,zs.length=n*2∧(Builtin.clear_ #[25] ty #[.slice (some ⟨b,o,none⟩) n c]).run prog w=.ok (.tuple #[]) (w.setCells b o zs):=by
 obtain ⟨h1,h2⟩:=zeroC_all n;refine ⟨_,h1,?_⟩;have hst:=run_storeCells_cells (P:=prog) b o (Builtin.zeroCells #[.int .i64 0,.string ⟨#[]⟩] n).toList 0 w (by rw [h1];simpa using hc) (by rw [h1];simpa using hf) h2;simp only [Nat.add_zero] at hst;obtain ⟨m,rfl⟩:∃ m,n=m+1:=⟨n - 1,by omega⟩;simp [Builtin.clear_,run_underlying underlying25,Value.cells,hst]
theorem elemO:prog.elem 25=116:=by kernel_rfl
structure Dk (q:World) (base G cap n:Nat) (L K:List Op.Opt) (j:Nat) (z:World):Prop where
 b:Below base q z
 g:∃ cur,z.heap[G]?=some (.cells cur 116)∧cur.size=cap*2∧(∀ t,t<K.length*2→cur[t]?=(ocells K)[t]?)∧∀ t,j*2≤t→t<n*2→cur[t]?=(ocells L)[t]?
variable {q z z':World} {base G cap n j:Nat} {L K:List Op.Opt}
theorem Dk.step (h:Dk q base G cap n L K j z) (hbs:base≤z.heap.size) (hb:Below z.heap.size z z'):Dk q base G cap n L K j z':=by
 obtain ⟨cur,h1,h2⟩:=h.g;exact ⟨h.b.trans (hb.mono hbs),cur,(hb.block _ (ge.1 h1).1).trans h1,h2⟩
theorem Dk.lt (h:Dk q base G cap n L K j z):G<z.heap.size:=by
 obtain ⟨cur,h1,_⟩:=h.g;exact (ge.1 h1).1
theorem Dk.get (h:Dk q base G cap n L K j z) (hL:L.length=n) (hj:j<n):z.cell? ⟨G,j*2,none⟩=some (.int .i64 (L[j]'(by omega)).kind)∧z.cell? ⟨G,j*2+1,none⟩=some (.string (L[j]'(by omega)).data):=by
 obtain ⟨cur,h1,_,_,h4⟩:=h.g;have hg:=ocells_get L j _ (List.getElem?_eq_getElem (by omega));exact ⟨by rw [cr h1,h4 _ (by omega) (by omega)];exact hg.1,by rw [cr h1,h4 _ (by omega) (by omega)];exact hg.2⟩
theorem Dk.skip (h:Dk q base G cap n L K j z):Dk q base G cap n L K (j+1) z:=by
 obtain ⟨cur,h1,h2,h3,h4⟩:=h.g;exact ⟨h.b,cur,h1,h2,h3,fun t ht hn=>h4 t (by omega) hn⟩
theorem Dk.keep (h:Dk q base G cap n L K j z) (hG:base≤G) (hK:K.length≤j) (hj:j<n) (hc:n≤cap) (o:Op.Opt):Dk q base G cap n L (K ++ [o]) (j+1) ((z.setCell ⟨G,K.length*2,none⟩ (.int .i64 o.kind)).setCell ⟨G,K.length*2+1,none⟩ (.string o.data)):=by
 obtain ⟨cur,h1,h2,h3,h4⟩:=h.g;have e1:=heap_setCell_same z G (K.length*2) _ _ (.int .i64 o.kind) h1;have e2:=heap_setCell_same _ G (K.length*2+1) _ _ (.string o.data) e1;refine ⟨(h.b.setCell (p:=⟨G,K.length*2,none⟩) hG _).setCell (p:=⟨G,K.length*2+1,none⟩) hG _,_,e2,by rw [Array.size_setIfInBounds,Array.size_setIfInBounds];exact h2,fun t ht=>?_,fun t ht hn=>?_⟩
 ·rw [List.length_append,List.length_singleton] at ht;rw [ocells_append,Array.getElem?_setIfInBounds,Array.getElem?_setIfInBounds,Array.size_setIfInBounds];by_cases t1:K.length*2+1=t
  ·rw [if_pos t1,if_pos (by omega),List.getElem?_append_right (by rw [ocells_len];omega),ocells_len,show t - K.length*2=1 by omega];rfl
  ·rw [if_neg t1];by_cases t0:K.length*2=t
   ·rw [if_pos t0,if_pos (by omega),List.getElem?_append_right (by rw [ocells_len];omega),ocells_len,show t - K.length*2=0 by omega];rfl
   ·rw [if_neg t0,List.getElem?_append_left (by rw [ocells_len];omega)];exact h3 t (by omega)
 ·rw [Array.getElem?_setIfInBounds,Array.getElem?_setIfInBounds,Array.size_setIfInBounds,if_neg (by omega),if_neg (by omega)];exact h4 t (by omega) hn
theorem filt_succ (p:Op.Opt→Bool) (L:List Op.Opt) (j:Nat) (hj:j<L.length):(L.take (j+1)).filter (fun o=>!p o)=(L.take j).filter (fun o=>!p o) ++ (if p L[j]=true then [] else [L[j]]):=by
 rw [List.take_succ_eq_append_getElem hj,List.filter_append];congr 1
 cases h:p L[j]<;>simp [h]
theorem filt_all (p:Op.Opt→Bool) (L:List Op.Opt) (h:∀ j (hj:j<L.length),p L[j]=false):L.filter (fun o=>!p o)=L :=
 List.filter_eq_self.2 fun x hx=>by
  obtain ⟨j,hj,rfl⟩:=List.getElem_of_mem hx;rw [h j hj];rfl
theorem delF (lb:Array Value) (p:Op.Opt→Bool) (v:Value) (L:List Op.Opt) (base:Nat) (q:World) (hbase:base≤q.heap.size) (hl:L.length≤20) (ho:q.ownsRow base 116 2 v L.length (ocells L))
  (hp:∀ (W:World) (x:Op.Opt),Below base q W→Calls prog 160 (#[opV x] ++ lb) W fun e w'=>e=.returned (.bool (p x))∧Below W.heap.size W w') :
  Calls prog 159 #[v,.func (.func 160) #[] lb] q fun e q'=>∃ v',e=.returned v'∧q'.ownsRow base 116 2 v' (L.filter fun o=>!p o).length (ocells (L.filter fun o=>!p o))∧Below base q q':=by
 have C:=hide (idxO lb p v L q (by omega) (HoldsO.own ho) (fun W x hb=>hp W x (hb.mono hbase)));have HO:=hide ho;have HP:=hide hp;obtain ⟨va,vc,rfl⟩:=own_form ho;clear hp ho;obtain ⟨n,hn⟩:∃ n,L.length=n:=⟨_,rfl⟩;rw [hn] at C HO hl ⊢;go_enter func159,ntmps159
 go_wp2_with fail
 refine (uh C).mono ?_;rintro e w1 ⟨r,rfl,hr,hb⟩;rcases hr with ⟨rfl,hall⟩ | ⟨k,hk,rfl,hpk,hall⟩
 ·have HF:=hide (filt_all p L hall);have HB:=hide hb;clear hb hall C HP;go_wp2
  go_ret
  refine ⟨_,rfl,?_,(uh HB).mono hbase⟩;rw [uh HF,hn];exact own_below (uh HO) (uh HB)
 ·have hne:((k:Int) == -1)=false:=beq_eq_false_iff_ne.2 (by omega);obtain ⟨G,cur,ev,hG,hgq,hnc,hcm,hcs,htk⟩:∃ G cur,va=some ⟨G,0,none⟩∧base≤G∧q.heap[G]?=some (.cells cur 116)∧n≤vc∧vc≤maxLen∧cur.size=vc*2∧cur.toList.take (n*2)=ocells L:=by
   rcases (uh HO).2 with ⟨_,e0⟩ | ⟨G,cap,cur,e1,e2,e3,e4,e5,e6,e7⟩
   ·omega
   ·cases e1;exact ⟨G,cur,rfl,e2,e3,e4,e5,e6,e7⟩
  subst ev;have HK0:Hid (((L.take (k+1)).filter fun o=>!p o)=L.take k):=hide (by
   rw [filt_succ p L k hk,if_pos hpk,List.append_nil];refine List.filter_eq_self.2 fun x hx=>?_
   obtain ⟨j,hj,rfl⟩:=List.mem_take_iff_getElem.1 hx;rw [hall j (by omega) (by omega)];rfl)
  have hD0:Dk q base G vc n L (L.take k) (k+1) w1:=by
   have hlook:∀ t,t<n*2→cur[t]?=(ocells L)[t]?:=fun t ht=>by
    rw [← htk,List.getElem?_take,if_pos ht,Array.getElem?_toList]
   refine ⟨hb.mono hbase,cur,(hb.block _ (ge.1 hgq).1).trans hgq,hcs,fun t ht=>?_,fun t _ ht=>hlook t ht⟩;rw [List.length_take] at ht;rw [hlook t (by omega)];conv=>lhs;rw [← List.take_append_drop k L,ocells_append]
   rw [List.getElem?_append_left (by rw [ocells_len,List.length_take];omega)]
  have HD0:=hide hD0;have hkn:k<n:=by omega
  have HM:=hide (And.intro hcm hcs);clear hb hall hpk hD0 htk hgq C HO hcm hcs;go_wp2_with fail
  go_loopw [5,6] (fun x y wr=>∃ j:Nat,k<j∧j≤n∧y=.int .i64 j∧x=.int .i64 (((L.take j).filter fun o=>!p o).length:Nat)∧((L.take j).filter fun o=>!p o).length<j∧base≤wr.heap.size∧Hid (Dk q base G vc n L ((L.take j).filter fun o=>!p o) j wr)) (fun _ y _=>n - (intOf y).toNat)
  case atStart =>
   refine ⟨k+1,by omega,by omega,by go_num,?_,?_,?_,?_⟩
   ·rw [uh HK0,List.length_take,Nat.min_eq_left (by omega)]
   ·rw [uh HK0,List.length_take];omega
   ·exact Nat.le_trans hbase (by have:=(uh HD0).lt;have:=(uh HD0).b.size;omega:q.heap.size≤w1.heap.size)
   ·rw [uh HK0];exact HD0
  case round =>
   obtain ⟨j,hkj,hjn,rfl,rfl,hKj,hbw,HD⟩:=hrel;clear HD0 HK0;obtain ⟨K,hK⟩:∃ K,((L.take j).filter fun o=>!p o)=K:=⟨_,rfl⟩;rw [hK] at hKj HD;by_cases hlt:j<n
   ·have d1:(j:Int)<(n:Int):=by omega
    have d0:(0:Int)≤(j:Int):=by omega
    have hFs:=filt_succ p L j (by omega);rw [hK] at hFs;have HKS:=hide hFs;obtain ⟨k0,k1⟩:=(uh HD).get hn hlt;have hcall:=hide fun W hb=>uh HP W (L[j]'(by omega)) hb
    obtain ⟨o,ho⟩:∃ o,L[j]'(by omega)=o:=⟨_,rfl⟩;rw [ho] at k0 k1 hcall HKS;have hGl:=(uh HD).lt;have hne1:¬ (G=wr.heap.size):=by omega
    have hne2:¬ (wr.heap.size=G):=by omega
    rw [hK];clear hK ho hFs HP;obtain ⟨kd,dt⟩:=o;dsimp only at k0 k1;go_upto_region 8 with fail
    refine gen_world (fun z=>Dk q base G vc n L K j z∧z.heap[wr.heap.size]?=some (.cells #[.int .i64 kd,.string dt] 116)∧base≤z.heap.size) ?_ ?_
    ·have hbA:=(Below.refl wr.heap.size wr).alloc (Nat.le_refl _) (.cells #[.int .i64 kd,.string dt] 116);exact ⟨(uh HD).step hbw hbA,heap_alloc_new wr _,Nat.le_trans hbw hbA.size⟩
    intro z1 hz1;generalize wr.heap.size=N at *;have HZ:=hide hz1;have m0:z1.cell? ⟨N,0,none⟩=some (.int .i64 kd):=by rw [cr hz1.2.1];rfl
    have m1:z1.cell? ⟨N,1,none⟩=some (.string dt):=by rw [cr hz1.2.1];rfl
    clear hz1 HD k0 k1;go_wp2_with fail
    refine (uh hcall _ (uh HZ).1.b).mono ?_;rintro e z2 ⟨rfl,hb2⟩;clear hcall m0 m1;have hz2:Dk q base G vc n L K j z2∧z2.heap[N]?=some (.cells #[.int .i64 kd,.string dt] 116)∧base≤z2.heap.size:=⟨(uh HZ).1.step (uh HZ).2.2 hb2,(hb2.block _ (ge.1 (uh HZ).2.1).1).trans (uh HZ).2.1,Nat.le_trans (uh HZ).2.2 hb2.size⟩;have H2:=hide hz2;have m0:z2.cell? ⟨N,0,none⟩=some (.int .i64 kd):=by rw [cr hz2.2.1];rfl
    have m1:z2.cell? ⟨N,1,none⟩=some (.string dt):=by rw [cr hz2.2.1];rfl
    clear hz2 hb2 HZ;cases hq:p ⟨kd,dt⟩ with
    | true =>
     rw [hq,if_pos rfl,List.append_nil] at HKS;clear hq;go_wp2_with fail
     go_roundw
     case rel =>
      refine ⟨j+1,by omega,by omega,by go_num,?_,?_,(uh H2).2.2,?_⟩
      ·rw [uh HKS]
      ·rw [uh HKS];omega
      ·rw [uh HKS];exact hide (uh H2).1.skip
     case measure=>simp [intOf];omega
    | false =>
     rw [hq,if_neg (by decide)] at HKS;clear hq;obtain ⟨c3,hc3,hs3,_⟩:=(uh H2).1.g;have e0:(z2.cell? ⟨G,K.length*2,none⟩).isSome=true:=by rw [cr hc3,Array.getElem?_eq_getElem (by omega)];rfl
     have e1:(z2.cell? ⟨G,K.length*2+1,none⟩).isSome=true:=by rw [cr hc3,Array.getElem?_eq_getElem (by omega)];rfl
     obtain ⟨y0,hy0⟩:=Option.isSome_iff_exists.1 e0;obtain ⟨y1,hy1⟩:=Option.isSome_iff_exists.1 e1;have f0:=frz hc3 (K.length*2);have f1:=frz hc3 (K.length*2+1);have dK:(K.length:Int)<(n:Int):=by omega
     clear e0 e1 hc3 hs3;go_wp2_with fail
     go_roundw
     case rel =>
      refine ⟨j+1,by omega,by omega,by go_num,?_,?_,?_,?_⟩
      ·rw [uh HKS,List.length_append];go_num
      ·rw [uh HKS,List.length_append];simp;omega
      ·simpa using (uh H2).2.2
      ·rw [uh HKS];exact hide ((uh H2).1.keep hG (by omega) hlt hnc ⟨kd,dt⟩)
     case measure=>simp [intOf];omega
   ·have d1:¬ ((j:Int)<(n:Int)):=by omega
    have ejn:j=n:=by omega
    subst ejn;have hKL:(L.filter fun o=>!p o)=K:=by
     rw [← hK,← hn,List.take_length]
    have HKL:=hide hKL;rw [hK];clear hK hKL HP;obtain ⟨c3,hc3,hs3,hlo3,_⟩:=(uh HD).g;obtain ⟨ys,hys⟩:∃ ys:Value,(.slice (some ⟨G,K.length*2,none⟩) (j - K.length) (vc - K.length):Value)=ys:=⟨_,rfl⟩;have hs1:∀ z:World,(Instr.slice 25 (.slice (some ⟨G,0,none⟩) j vc) (some (.int .i64 (K.length:Int))) none none).run prog z=.ok ys z:=fun z=>by
     rw [← hys,run_slice_l (P:=prog) (w:=z) 25 _ j vc (by rw [elemO];exact underlying25) .i64 (K.length:Int) (by omega) (by omega),elemO,Tryz.sizeOf116 z];have:¬ vc=K.length:=by omega
     simp [Result.andThen,sliced,Addr.add,this];omega
    have hs2:∀ z:World,(Instr.slice 25 (.slice (some ⟨G,0,none⟩) j vc) none (some (.int .i64 (K.length:Int))) none).run prog z=.ok (.slice (some ⟨G,0,none⟩) K.length vc) z:=fun z=>by
     rw [run_slice_h (P:=prog) (w:=z) 25 _ j vc (by rw [elemO];exact underlying25) .i64 (K.length:Int) (by omega) (by omega),elemO,Tryz.sizeOf116 z];simp [Result.andThen,sliced,Addr.add]
    obtain ⟨zs,hzl,hcl⟩:=run_clearO wr 0 G (K.length*2) (j - K.length) (vc - K.length) (by omega) (fun t ht=>by rw [cr hc3,Array.getElem?_eq_getElem (by omega)];rfl) (fun t _=>frz hc3 _);rw [hys] at hcl;obtain ⟨c4,hc4,hs4,hl4⟩:=setCells_rowO zs (K.length*2) wr c3 hc3 (by omega);have HE:Hid ((wr.setCells G (K.length*2) zs).ownsRow base 116 2 (.slice (some ⟨G,0,none⟩) K.length vc) K.length (ocells K)∧Below base q (wr.setCells G (K.length*2) zs)):=hide ⟨⟨by rw [ocells_len],Or.inr ⟨G,vc,c4,rfl,hG,hc4,by omega,(uh HM).1,by rw [hs4,hs3],by
     refine List.ext_getElem? fun t=>?_
     rw [List.getElem?_take];by_cases ht:t<K.length*2
     ·rw [if_pos ht,Array.getElem?_toList,hl4 t ht,hlo3 t ht]
     ·rw [if_neg ht,List.getElem?_eq_none (by rw [ocells_len];omega)]⟩⟩,below_setO hG _ _ _ (uh HD).b⟩
    clear hys hc3 hs3 hlo3 hc4 hs4 hl4 hzl HD;go_wp2_with fail
    go_ret
    refine ⟨_,rfl,?_,(uh HE).2⟩;rw [uh HKL];exact (uh HE).1
theorem iOfKinds (v vo:Value) (L Os:List Op.Opt) (w:World) (hr:Op.right L=true) (hl:Os.length≤1000) (hL:HoldsO w v L) (hO:HoldsO w vo Os) :
  Calls prog 143 #[v,vo] w fun e w'=>∃ v',e=.returned v'∧w'.ownsRow w.heap.size 116 2 v' (ofKs L Os).length (ocells (ofKs L Os))∧Below w.heap.size w w':=by
 have hl20:L.length≤20:=Op.right_len hr;obtain ⟨oa,oc,rfl⟩:=hO.form;have hbA:=(Below.refl w.heap.size w).alloc (Nat.le_refl _) (.cells #[.slice oa Os.length oc] 25);have hx:(w.alloc (.cells #[.slice oa Os.length oc] 25)).cell? ⟨w.heap.size,0,none⟩=some (.slice oa Os.length oc):=by
  rw [cr (heap_alloc_new w _)];rfl
 have hxl:w.heap.size<(w.alloc (.cells #[.slice oa Os.length oc] 25)).heap.size:=by simp
 have CS:=hide (iSame v L (w.alloc (.cells #[.slice oa Os.length oc] 25)) hr (hL.below hbA rfl));have HX:=hide (And.intro hx (And.intro hxl (And.intro (hO.below hbA rfl) hbA)));clear hx hxl hO hL;obtain ⟨w1,hw1⟩:∃ w1,w.alloc (.cells #[.slice oa Os.length oc] 25)=w1:=⟨_,rfl⟩;rw [hw1] at CS HX hbA;have HW:=hide hw1;clear hw1;have CD:Hid (∀ (W:World) (va:Option Addr) (vc:Nat),Below w1.heap.size w1 W→W.ownsRow w1.heap.size 116 2 (.slice va L.length vc) L.length (ocells L)→Calls prog 159 #[.slice va L.length vc,.func (.func 160) #[] #[.pointer (some ⟨w.heap.size,0,none⟩)]] W fun e q'=>∃ v',e=.returned v'∧q'.ownsRow w1.heap.size 116 2 v' (ofKs L Os).length (ocells (ofKs L Os))∧Below w1.heap.size W q'):=hide fun W va vc hb ho=>by
  have h:=delF #[.pointer (some ⟨w.heap.size,0,none⟩)] (fun x=>!(Os.any fun y=>y.kind == x.kind)) _ L w1.heap.size W hb.size hl20 ho (fun W' x hb'=>delK x _ Os w.heap.size W' hl (((hb.trans hb').cell (p:=⟨w.heap.size,0,none⟩) (uh HX).2.1).trans (uh HX).1) ((uh HX).2.2.1.below (hb.trans hb') rfl));have e:(L.filter fun o=>!(fun x:Op.Opt=>!(Os.any fun y=>y.kind == x.kind)) o)=ofKs L Os:=by
   unfold ofKs;congr 1
   funext o
   exact Bool.not_not _
  rw [e] at h;exact h
 have hbs:=hbA.size;go_enter func143,ntmps143
 go_upto_region 1 with fail
 rw [uh HW];clear HW;go_wp2_with fail
 refine (uh CS).mono ?_;rintro e w2 ⟨va,vc,rfl,ho2,hb2⟩;have CD2:=hide (uh CD w2 va vc hb2 ho2);have HB2:=hide hb2;clear hb2 ho2 CS CD;go_wp2_with fail
 refine (uh CD2).mono ?_;rintro e w3 ⟨v3,rfl,ho3,hb3⟩;have H3:=hide (And.intro ho3 hb3);clear ho3 hb3 CD2;go_wp2
 go_ret
 exact ⟨_,rfl,own_mono (uh H3).1 hbs,hbA.trans (((uh HB2).trans (uh H3).2).mono hbs)⟩
end Go.Proofs.YtahpjlbaagkdoaaGreatDoor
namespace Go.Proofs.YtahpjlbaagkdoaaGreatDoor
open Go.RowKit Go.Proofs.Tryz
structure Rp (q:World) (N0 C:Nat) (m a g2:Int) (p c9 d:Bool) (z:World):Prop where
 b:Below q.heap.size q z
 r:z.heap[N0]?=some (.cells #[.int .i64 0,.slice none 0 0] 81)
 c:z.heap[C]?=some (.cells #[.int .i64 m,.int .i64 a,.int .i64 g2,.bool p,.bool c9,.bool d] 24)
variable {q z z':World} {N0 C:Nat} {m a g2:Int} {p c9 d:Bool}
theorem Rp.step (h:Rp q N0 C m a g2 p c9 d z) (hb:Below z.heap.size z z'):Rp q N0 C m a g2 p c9 d z' :=
 ⟨h.b.trans (hb.mono h.b.size),(hb.block _ (ge.1 h.r).1).trans h.r,(hb.block _ (ge.1 h.c).1).trans h.c⟩
theorem Rp.lt (h:Rp q N0 C m a g2 p c9 d z):N0<z.heap.size:=(ge.1 h.r).1
theorem Rp.setG {g3:Int} (h:Rp q N0 C m a g2 p c9 d z) (hC:q.heap.size≤C) (hn:N0≠C):Rp q N0 C m a g3 p c9 d (z.setCell ⟨C,2,none⟩ (.int .i64 g3)) :=
 ⟨h.b.setCell (p:=⟨C,2,none⟩) hC _,(Below.heap_setCell _ ⟨C,2,none⟩ _ _ hn).trans h.r,heap_setCell_same _ _ 2 _ _ _ h.c⟩
theorem row2a {w:World} {B:Nat} {x0 x1:Value} {T:TypeId} (h:w.heap[B]?=some (.cells #[x0,x1] T)):w.cell? ⟨B,0,none⟩=some x0∧w.cell? ⟨B,1,none⟩=some x1 :=
 ⟨by rw [cr h];rfl,by rw [cr h];rfl⟩
structure RaP (q:World) (N0 C:Nat) (m a g2:Int) (p c9 d:Bool) (M:Nat) (code:Int) (v:Value) (R:List Op.Opt) (z:World):Prop where
 e:Rp q N0 C m a g2 p c9 d z
 m:z.heap[M]?=some (.cells #[.int .i64 code,v] 81)
 o:HoldsO z v R
 n:N0<M
theorem set2a {W:World} {E:Nat} {z0 z1:Value} {T:TypeId} (h:W.heap[E]?=some (.cells #[z0,z1] T)) (x0 x1:Value) :
  ((W.setCell ⟨E,0,none⟩ x0).setCell ⟨E,1,none⟩ x1).heap[E]?=some (.cells #[x0,x1] T):=by
 have h1:=heap_setCell_same _ _ 0 _ _ x0 h;have h2:=heap_setCell_same _ _ 1 _ _ x1 h1;exact h2
theorem set2a_ot {W:World} {E k:Nat} (hk:k≠E) (x0 x1:Value):((W.setCell ⟨E,0,none⟩ x0).setCell ⟨E,1,none⟩ x1).heap[k]?=W.heap[k]? :=
 (Below.heap_setCell _ ⟨E,1,none⟩ _ _ hk).trans (Below.heap_setCell _ ⟨E,0,none⟩ _ _ hk)
theorem Rp.put {M:Nat} {code:Int} {v:Value} {R:List Op.Opt} (h:Rp q N0 C m a g2 p c9 d z) (hM:z.heap[M]?=some (.cells #[.int .i64 0,.slice none 0 0] 81)) (hw:q.heap.size≤M) (hn:N0<M) (ho:HoldsO z v R) :
  RaP q N0 C m a g2 p c9 d M code v R ((z.setCell ⟨M,0,none⟩ (.int .i64 code)).setCell ⟨M,1,none⟩ v):=by
 refine ⟨⟨(h.b.setCell (p:=⟨M,0,none⟩) hw _).setCell (p:=⟨M,1,none⟩) hw _,(set2a_ot (by omega) _ _).trans h.r,(set2a_ot (fun e=>?_) _ _).trans h.c⟩,set2a hM _ _,hold_ty ho hM (by decide) fun k _ hk=>set2a_ot hk _ _,hn⟩;have h1:=h.c;rw [e,hM] at h1;injection h1 with h1;injection h1 with _ h1;exact absurd h1 (by decide)
theorem iReplyTo {w0 w1:World} {B:Nat} {c:Cx} {s:St} {v1 v2 vs vt:Value} {q:World} (h:Lay 83 w0 w1 B c s v1 v2 vs vt q) (v:Value) (L:List Op.Opt) (hr:Op.right L=true) (hL:HoldsO q v L) :
  Calls prog 129 #[.pointer (some ⟨B,0,none⟩),v] q fun r q'=>∃ v',r=.returned (.agg #[.int .i64 (ansF s.e L).1,v'])∧HoldsO q' v' (ansF s.e L).2∧Below q.heap.size q q':=by
 have hB:=h.lt;have HE:Hid (∀ z,Below q.heap.size q z→z.cell? ⟨B,0,none⟩=some (.int .i64 s.e.m1)∧z.cell? ⟨B,1,none⟩=some (.int .i64 s.e.a1)∧z.cell? ⟨B,2,none⟩=some (.int .i64 s.e.g1)∧z.cell? ⟨B,3,none⟩=some (.bool s.e.p1)∧z.cell? ⟨B,4,none⟩=some (.bool s.e.c1)∧z.cell? ⟨B,5,none⟩=some (.bool s.e.d1)∧z.cell? ⟨B,8,none⟩=some (.int .i64 s.e.g2)∧z.cell? ⟨B,16,none⟩=some (.int .i64 s.e.fl)):=hide fun z hb=>by
  have hz:=h.step hb;exact ⟨hz.cell (i:=0) rfl,hz.cell (i:=1) rfl,hz.cell (i:=2) rfl,hz.cell (i:=3) rfl,hz.cell (i:=4) rfl,hz.cell (i:=5) rfl,hz.cell (i:=8) rfl,hz.cell (i:=16) rfl⟩
 have hm:L.length≤maxLen:=by have:=Op.right_len hr;unfold maxLen;omega
 have CR:Hid (∀ z,Below q.heap.size q z→Calls prog 142 #[cfgV s.e.m1 s.e.a1 s.e.g2 s.e.p1 s.e.c1 s.e.d1,v] z fun e w'=>∃ ad cp,e=.returned (.agg #[.int .i64 (repF s.e.m1 s.e.a1 s.e.g2 s.e.p1 s.e.c1 s.e.d1 L).1,.slice ad (repF s.e.m1 s.e.a1 s.e.g2 s.e.p1 s.e.c1 s.e.d1 L).2.length cp])∧w'.ownsRow z.heap.size 116 2 (.slice ad (repF s.e.m1 s.e.a1 s.e.g2 s.e.p1 s.e.c1 s.e.d1 L).2.length cp) (repF s.e.m1 s.e.a1 s.e.g2 s.e.p1 s.e.c1 s.e.d1 L).2.length (ocells (repF s.e.m1 s.e.a1 s.e.g2 s.e.p1 s.e.c1 s.e.d1 L).2)∧Below z.heap.size z w'):=hide fun z hb=>implRepAll s.e.m1 s.e.a1 s.e.g2 s.e.p1 s.e.c1 s.e.d1 L v z hm (hL.below hb rfl)
 have hR20:=repF_len s.e.m1 s.e.a1 s.e.g2 s.e.p1 s.e.c1 s.e.d1 L;have CK:Hid (∀ z vo,Below q.heap.size q z→HoldsO z vo (repF s.e.m1 s.e.a1 s.e.g2 s.e.p1 s.e.c1 s.e.d1 L).2→Calls prog 143 #[v,vo] z fun e w'=>∃ v',e=.returned v'∧w'.ownsRow z.heap.size 116 2 v' (ofKs L (repF s.e.m1 s.e.a1 s.e.g2 s.e.p1 s.e.c1 s.e.d1 L).2).length (ocells (ofKs L (repF s.e.m1 s.e.a1 s.e.g2 s.e.p1 s.e.c1 s.e.d1 L).2))∧Below z.heap.size z w'):=hide fun z vo hb ho=>iOfKinds v vo L _ z hr (by omega) (hL.below hb rfl) ho
 obtain ⟨va,vc,rfl⟩:=hL.form;unfold ansF;clear h hm hr hL;generalize s.e.m1=m at *;generalize s.e.a1=a at *;generalize s.e.g1=g1 at *;generalize s.e.p1=p at *;generalize s.e.c1=c9 at *;generalize s.e.d1=d at *;generalize s.e.g2=g2 at *;generalize s.e.fl=fl at *;generalize repF m a g2 p c9 d L=RR at *;obtain ⟨code,R⟩:=RR;dsimp only at CR CK hR20 ⊢;generalize ofKs L R=KR at *;unfold cfgV at CR;obtain ⟨AN,hAN⟩:∃ AN,(if code=3∧fl=3 then (4,KR) else (code,R))=AN:=⟨_,rfl⟩;rw [hAN];have HAN:=hide hAN;clear hAN;obtain ⟨N0,hN0⟩:∃ N0,q.heap.size=N0:=⟨_,rfl⟩;have hne1:¬ (B=q.heap.size):=by omega
 have hne2:¬ (q.heap.size=B):=by omega
 have hne3:¬ (B=q.heap.size+1):=by omega
 have hne4:¬ (q.heap.size+1=B):=by omega
 obtain ⟨c0,c1,c2,c3,c4,c5,c8,c16⟩:=uh HE _ ((Below.refl q.heap.size q).alloc (Nat.le_refl _) (.cells #[.int .i64 0,.slice none 0 0] 81));go_enter func129,ntmps129
 go_upto_region 2 with fail
 refine gen_world (Rp q N0 (N0+1) m a g1 p c9 d) ?_ ?_
 ·obtain ⟨_,hA,hX,hb⟩:=start2r q (.cells #[.int .i64 0,.slice none 0 0] 81) (.cells #[.int .i64 m,.int .i64 a,.int .i64 g1,.bool p,.bool c9,.bool d] 24);rw [hN0] at hA hX;exact ⟨hb,hA,hX⟩
 clear c0 c1 c2 c3 c4 c5 c8 c16;intro z0 hz0;have E0:=hide hz0;obtain ⟨_,_,_,_,_,_,c8,_⟩:=uh HE _ hz0.b;have t2:z0.cell? ⟨N0+1,2,none⟩=some (.int .i64 g1):=by rw [cr hz0.c];rfl
 have f2:=frz hz0.c 2;clear hz0;go_upto_region 3 with fail
 refine gen_world (Rp q N0 (N0+1) m a g2 p c9 d) ((uh E0).setG (by omega) (by omega)) ?_;clear c8 t2 f2 E0;intro z1 hz1;have E1:=hide hz1;clear hz1;obtain ⟨C,hC⟩:∃ C,N0+1=C:=⟨_,rfl⟩;rw [hC] at E1 ⊢;clear hC;have SY:Hid (∀ y9,Rp q N0 C m a g2 p c9 d y9→(y9.cell? ⟨C,0,none⟩=some (.int .i64 m)∧y9.cell? ⟨C,1,none⟩=some (.int .i64 a)∧y9.cell? ⟨C,2,none⟩=some (.int .i64 g2)∧y9.cell? ⟨C,3,none⟩=some (.bool p)∧y9.cell? ⟨C,4,none⟩=some (.bool c9)∧y9.cell? ⟨C,5,none⟩=some (.bool d))):=hide fun y9 hz=>by
  have hc:=hz.c;exact ⟨by rw [cr hc];rfl,by rw [cr hc];rfl,by rw [cr hc];rfl,by rw [cr hc];rfl,by rw [cr hc];rfl,by rw [cr hc];rfl⟩
 obtain ⟨k0,k1,k2,k3,k4,k5⟩:=uh SY _ (uh E1);go_wp2_with fail
 refine (uh CR _ (uh E1).b).mono ?_;rintro e z2 ⟨ad,cp,rfl,ho2,hb2⟩;have E2:=hide (And.intro ((uh E1).step hb2) (HoldsO.own ho2));clear ho2 hb2 k0 k1 k2 k3 k4 k5 E1 SY CR;go_upto_region 4 with fail
 refine gen_world (RaP q N0 C m a g2 p c9 d z2.heap.size code (.slice ad R.length cp) R) ?_ ?_
 ·have hbA:=(Below.refl z2.heap.size z2).alloc (Nat.le_refl _) (.cells #[.int .i64 code,.slice ad R.length cp] 81);exact ⟨(uh E2).1.step hbA,heap_alloc_new z2 _,(uh E2).2.below hbA rfl,(uh E2).1.lt⟩
 intro z4 hz4;have E4:=hide hz4;clear hz4 E2;generalize z2.heap.size=M at *;have hnM:=(uh E4).n;obtain ⟨r0,r1⟩:=row2a (uh E4).m;obtain ⟨s0,s1⟩:=row2a (uh E4).e.r;have f0:=frz (uh E4).e.r 0;have f1:=frz (uh E4).e.r 1;obtain ⟨_,_,_,_,_,_,_,c16⟩:=uh HE _ (uh E4).e.b;have hneM:¬ (M=N0):=by omega
 have hneM2:¬ (N0=M):=by omega
 have hN0q:q.heap.size≤N0:=Nat.le_of_eq hN0;clear hN0 hne1 hne2 hne3 hne4;by_cases hcd:code=3∧fl=3
 ·rw [if_pos hcd] at HAN;obtain ⟨hcd1,hcd2⟩:=hcd;subst hcd1;subst hcd2;have CK2:=hide (uh CK _ (.slice ad R.length cp) (uh E4).e.b (uh E4).o);clear CK;go_wp2_with fail
  refine (uh CK2).mono ?_;rintro e z5 ⟨v5,rfl,ho5,hb5⟩;obtain ⟨ka,kc,rfl⟩:=own_form ho5;have E5:=hide (And.intro ((uh E4).e.step hb5) (HoldsO.own ho5));clear hb5 ho5 CK2 r0 r1 s0 s1 f0 f1;obtain ⟨s0,s1⟩:=row2a (uh E5).1.r;have f0:=frz (uh E5).1.r 0;have f1:=frz (uh E5).1.r 1;go_wp2_with fail
  refine bodyPost_ret (v:=.agg #[.int .i64 4,.slice ka KR.length kc]) (by simp [results,results129,asAddr,loadAn (set2a (uh E5).1.r _ _)]) rfl ?_;rw [← uh HAN];exact ⟨_,rfl,hold_ty (uh E5).2 (uh E5).1.r (by decide) fun k _ hk=>set2a_ot hk _ _,((uh E5).1.b.setCell (p:=⟨N0,0,none⟩) hN0q _).setCell (p:=⟨N0,1,none⟩) hN0q _⟩
 ·rw [if_neg hcd] at HAN;by_cases hc3:code=3
  ·have hfl:(fl == 3)=false:=beq_eq_false_iff_ne.2 fun e=>hcd ⟨hc3,e⟩
   subst hc3;clear hcd;go_wp2_with fail
   refine bodyPost_ret (v:=.agg #[.int .i64 3,.slice ad R.length cp]) (by simp [results,results129,asAddr,loadAn (set2a (uh E4).e.r _ _)]) rfl ?_;rw [← uh HAN];exact ⟨_,rfl,hold_ty (uh E4).o (uh E4).e.r (by decide) fun k _ hk=>set2a_ot hk _ _,((uh E4).e.b.setCell (p:=⟨N0,0,none⟩) hN0q _).setCell (p:=⟨N0,1,none⟩) hN0q _⟩
  ·have hcd3:(code == 3)=false:=beq_eq_false_iff_ne.2 hc3;clear hcd hc3;go_wp2_with fail
   refine bodyPost_ret (v:=.agg #[.int .i64 code,.slice ad R.length cp]) (by simp [results,results129,asAddr,loadAn (set2a (uh E4).e.r _ _)]) rfl ?_;rw [← uh HAN];exact ⟨_,rfl,hold_ty (uh E4).o (uh E4).e.r (by decide) fun k _ hk=>set2a_ot hk _ _,((uh E4).e.b.setCell (p:=⟨N0,0,none⟩) hN0q _).setCell (p:=⟨N0,1,none⟩) hN0q _⟩
end Go.Proofs.YtahpjlbaagkdoaaGreatDoor
