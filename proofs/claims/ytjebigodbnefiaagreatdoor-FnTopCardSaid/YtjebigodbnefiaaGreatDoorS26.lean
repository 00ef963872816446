/- WkU HrF HrL HrA HrC PktOf RowB NewD Bld -/
import Derived.Test.YtjebigodbnefiaaGreatDoorS22
import Derived.Test.YtjebigodbnefiaaGreatDoorS17
import Derived.Test.YtjebigodbnefiaaGreatDoorS23
import Derived.Test.YtjebigodbnefiaaGreatDoorS19
import Derived.Shelf.Strings.BuilderK
set_option maxHeartbeats 4000000
set_option maxRecDepth 100000
set_option linter.unusedSimpArgs false
namespace Go.Proofs.YtjebigodbnefiaaGreatDoor
open Go.RowKit Go.Proofs.Tryz
def js:List ByteArray:=[mO,mP,mQ,bP,bQ,bL,pT,sB,p6,p7,dz]
def qm (i:Nat):List ByteArray:=if i=6 then pY :: js else if i=7 then pZ :: js else js
theorem qn:((List.range 16).all fun i=>(List.range 10).all fun k=>(cU (ex i k)).all fun a=>(qm i).any fun b=>a.data.toList == b.data.toList)=true:=by kernel_rfl
theorem ia {c:Cx} {a:ByteArray} (h:a ∈ js):qf c a:=by
 simp only [js,List.mem_cons,List.not_mem_nil,or_false] at h;unfold qf;rcases h with h | h | h | h | h | h | h | h | h | h | h<;>simp [h]
theorem aO {i:Nat} {t:ByteArray} (ht:bq[i]?=some t) {st:Int} (h0:0≤st) (h9:st≤9) {c:Cx} (h6:i=6→c.ac=2) (h7:i=7→c.ac≠2):(∀ a ∈ (bO st t).2.1,qf c a)∧(bO st t).2.1.length≤30:=by
 have hi:i<16:=(List.getElem?_eq_some_iff.1 ht).1;obtain ⟨k,rfl⟩:∃ k:Nat,st=(k:Int):=⟨st.toNat,by omega⟩;have hk:k<10:=by omega
 obtain ⟨e,⟨_,hl⟩,_⟩:=iO ht hk;rw [e];split
 ·exact ⟨fun a ha=>by simp at ha,by simp⟩
 ·refine ⟨fun a ha=>?_,hl⟩;have h:=List.all_eq_true.1 (List.all_eq_true.1 (List.all_eq_true.1 qn i (List.mem_range.2 hi)) k (List.mem_range.2 hk)) a ha;obtain ⟨b,hb,e⟩:=List.any_eq_true.1 h;have e2:a=b:=by
   obtain ⟨⟨l⟩⟩:=a;obtain ⟨⟨m⟩⟩:=b;have:l=m:=by simpa using e
   rw [this]
  subst e2;unfold qm at hb;split at hb
  ·rename_i h'
   rcases List.mem_cons.1 hb with hb | hb
   ·exact Or.inr (Or.inr (Or.inr (Or.inr (Or.inr (Or.inr (Or.inr (Or.inr (Or.inr (Or.inr (Or.inr (Or.inl ⟨hb,h6 h'⟩)))))))))))
   ·exact ia hb
  ·split at hb
   ·rename_i h'
    rcases List.mem_cons.1 hb with hb | hb
    ·exact Or.inr (Or.inr (Or.inr (Or.inr (Or.inr (Or.inr (Or.inr (Or.inr (Or.inr (Or.inr (Or.inr (Or.inr ⟨hb,h7 h'⟩)))))))))))
    ·exact ia hb
   ·exact ia hb
def eX (e:En) (L:List Op.Opt):Int × List Op.Opt :=
 if (ck e.m1 e.a1 e.g2 e.p1 e.c1 e.d1 L).1=3∧e.fl=3 then (4,gX L (ck e.m1 e.a1 e.g2 e.p1 e.c1 e.d1 L).2) else ck e.m1 e.a1 e.g2 e.p1 e.c1 e.d1 L
def aU (now:Int) (p:Op.Pk) (H:List Op.Opt) (A:Int × List Op.Opt) (vh va:Value):Cx:=⟨now,p.code,p.id,p.data,H,A.1,A.2,vh,va⟩
def gr (e:En):Cf:=⟨e.m2.toNat,e.a2.toNat,e.g2.toNat,e.p2,e.c2,e.d2⟩
def ee (e:En) (x:Cf):En:={ e with m2:=x.m,a2:=x.a,g2:=x.g,p2:=x.p,c2:=x.c,d2:=x.d }
def im (i:Nat):ByteArray:=bq.getD i ⟨#[]⟩
abbrev ai:Value:=.slice none 0 0
def f_ (t:ByteArray):Bool:=match t.data.toList with
 | []=>false
 | b :: _=>decide (1≤b.toNat∧b.toNat≤7)
def aB (now:Int) (p:Op.Pk) (e:En) (F1 F2:List Op.Opt):EO :=
 if p.code=1 then
  if (ar p.data).2=0 then bj (aU now p (ar p.data).1 (eX e (ar p.data).1) ai ai) ⟨e,F1,F2,[],[]⟩ (im (if (eX e (ar p.data).1).1=2 then 6 else 7)) else bA (ar p.data).2
 else if p.code=2 then
  if p.id=e.id∧p.data=co (Op.bytes F1) then bj (aU now p [] (0,[]) ai ai) ⟨e,F1,F2,[],[]⟩ (im 8) else bA 8
 else if p.code=3∨p.code=4 then
  if p.id=e.id then
   if (ar p.data).2=0 then bj (aU now p [] (0,[]) ai ai) ⟨ee e (if p.code=3 then bF (gr e) (ar p.data).1 else gI (gr e) (ar p.data).1),F1,F2,[],[]⟩ (im 9) else bA (ar p.data).2
  else bA 8
 else if p.code=7∧p.data.size=0 then bA 4
 else bj (aU now p [] (0,[]) ai ai) ⟨e,F1,F2,[],[]⟩ (im (if p.code=5 then 10 else if p.code=6 then 11 else if p.code=7 then (if f_ p.data=true then 14 else 13) else if p.code=9∨p.code=10∨p.code=11 then 15 else 12))
def bn (e:En) (F1 F2:List Op.Opt) (p:Op.Pk) (now:Int):EO :=
 if (dJ e F1 F2 && al 0 1000000000 now)=true∧Op.pok p=true then (if e.st≤1 then bA 8 else aB now p e F1 F2) else bA 1
theorem eS {t:ByteArray} (ht:t.size≤250):cC (ar t).1=true:=by
 have h8:¬ 8000<t.size:=by omega
 unfold cC;rw [dd,Bool.true_and];cases ha:Op.acc [] t.data.toList with
 | none=>rw [ed h8 ha];rfl
 | some L =>
  have h1:=Op.bytes_acc ha;have h2:=dd t;rw [fb h8 ha] at h2 ⊢;unfold Op.told at h1;rw [if_pos h2] at h1;refine decide_eq_true ?_;rw [h1];exact ht
theorem sU (m a g:Int) (p c d:Bool) {L:List Op.Opt} (h:cC L=true):cC (ck m a g p c d L).2=true:=by
 unfold ck;split
 ·exact sx _ _ _ _ _ _ h _
 ·rfl
theorem kB (e:En) {L:List Op.Opt} (h:cC L=true):cC (eX e L).2=true:=by
 unfold eX;split
 ·exact sy h _
 ·exact sU _ _ _ _ _ _ h
theorem Fit.came {n:Nat} {now:Int} {s:St} (h:Fit n (bY now) s) (p:Op.Pk) (hp:Op.pok p=true) {H:List Op.Opt} {A:Int × List Op.Opt} (hH:cC H=true) (hA:cC A.2=true) (vh va:Value):Fit n (aU now p H A vh va) s:=by
 unfold Op.pok at hp;have:=of_decide_eq_true hp
 exact ⟨h.cf,h.ask,h.id,h.tr,h.fl,h.now,h.f1,h.f2,h.sn,h.tl,hH,hA,this.2.2.2.2,h.du⟩
theorem Fit.asks {n:Nat} {c:Cx} {e:En} {F1 F2:List Op.Opt} {sn:List Op.Pk} {tl:List ByteArray} (h:Fit n c ⟨e,F1,F2,sn,tl⟩) {x:Cf} (hx:iv x=true):Fit n c ⟨ee e x,F1,F2,sn,tl⟩ :=
 ⟨h.cf,hx,h.id,h.tr,h.fl,h.now,h.f1,h.f2,h.sn,h.tl,h.hd,h.ao,h.cd,h.du⟩
theorem gp {i:Nat} (h:i<16):bq[i]?=some (im i):=by
 have hl:bq.length=16:=by kernel_rfl
 unfold im;rw [List.getD_eq_getElem?_getD,List.getElem?_eq_getElem (by omega)];rfl
end Go.Proofs.YtjebigodbnefiaaGreatDoor
namespace Go.Proofs.YtjebigodbnefiaaGreatDoor
open Go.RowKit Go.Proofs.Tryz
variable {T:TypeId} {w0 w1:World} {B:Nat} {c:Cx} {s:St} {v1 v2 vs vt:Value} {q q':World}
theorem Lay.setCx (h:Lay T w0 w1 B c s v1 v2 vs vt q) (i:Nat) (v:Value) (c':Cx) (hc:(lF c s.e v1 v2 vs vt).set i v=lF c' s.e v1 v2 vs vt) (e1:c'.vh=c.vh) (e2:c'.hd=c.hd) (e3:c'.va=c.va) (e4:c'.ao=c.ao):Lay T w0 w1 B c' s v1 v2 vs vt (q.setCell ⟨B,i,none⟩ v):=by
 have hr:=zH q B i _ _ v h.row;rw [List.setIfInBounds_toArray,hc] at hr;have hk:∀ k,k≠B→(q.setCell ⟨B,i,none⟩ v).heap[k]?=q.heap[k]?:=fun k hk=>heap_setCell_other q _ _ _ hk
 refine ⟨hr,ak h.o1 fun g hg=>hk g fun e=>aq h.o1 h.row h.tt.1 (e ▸ hg),ak h.o2 fun g hg=>hk g fun e=>aq h.o2 h.row h.tt.1 (e ▸ hg),ak h.os fun g hg=>hk g fun e=>aq h.os h.row h.tt.2.1 (e ▸ hg),ak h.ot fun g hg=>hk g fun e=>aq h.ot h.row h.tt.2.2 (e ▸ hg),?_,?_,h.hB,h.tt,h.ap,?_,h.lo,h.nr.setCell i v⟩
 ·rw [e1,e2];exact ak h.oh fun g hg=>hk g fun e=>aq h.oh h.row h.tt.1 (e ▸ hg)
 ·rw [e3,e4];exact bS h.ha h.row h.tt.1 fun k _=>hk k
 ·rw [e1];exact h.aph
theorem Lay.cameP (h:Lay T w0 w1 B c s v1 v2 vs vt q) (x y:Int) (t:ByteArray):Lay T w0 w1 B { c with cc:=x,ci:=y,cd:=t } s v1 v2 vs vt (((q.setCell ⟨B,31,none⟩ (.int .i64 x)).setCell ⟨B,32,none⟩ (.int .i64 y)).setCell ⟨B,33,none⟩ (.string t)) :=
 ((h.setCx 31 (.int .i64 x) { c with cc:=x } rfl rfl rfl rfl rfl).setCx 32 (.int .i64 y) { c with cc:=x,ci:=y } rfl rfl rfl rfl rfl).setCx 33 (.string t) { c with cc:=x,ci:=y,cd:=t } rfl rfl rfl rfl rfl
theorem Lay.had9 (h:Lay T w0 w1 B c s v1 v2 vs vt q) (hb:Below q.heap.size q q') (v:Value) (F:List Op.Opt) (ho:q'.ownsRow q.heap.size 27 2 v F.length (aj F)):Lay T w0 w1 B { c with hd:=F,vh:=v } s v1 v2 vs vt (q'.setCell ⟨B,34,none⟩ v):=by
 have h':=h.step hb;have hr:=zH q' B 34 _ _ v h'.row;rw [List.setIfInBounds_toArray] at hr;have hk:∀ k,k≠B→(q'.setCell ⟨B,34,none⟩ v).heap[k]?=q'.heap[k]?:=fun k hk=>heap_setCell_other q' _ _ _ hk
 have hs:=h.low.size;refine ⟨hr,ak h'.o1 fun g hg=>hk g fun e=>aq h'.o1 h'.row h.tt.1 (e ▸ hg),ak h'.o2 fun g hg=>hk g fun e=>aq h'.o2 h'.row h.tt.1 (e ▸ hg),ak h'.os fun g hg=>hk g fun e=>aq h'.os h'.row h.tt.2.1 (e ▸ hg),ak h'.ot fun g hg=>hk g fun e=>aq h'.ot h'.row h.tt.2.2 (e ▸ hg),ak (aE ho hs) fun g hg=>hk g fun e=>aq ho h'.row h.tt.1 (e ▸ hg),bS h'.ha h'.row h.tt.1 fun k _=>hk k,h.hB,h.tt,h.ap,fun g hg e=>?_,h.lo,h'.nr.setCell 34 v⟩;have h1:=(ho.lt g e).1;have h2:=(h.o1.lt g hg).2;omega
theorem Lay.ans9 (h:Lay T w0 w1 B c s v1 v2 vs vt q) (x:Int) (v:Value) (F:List Op.Opt) (hv:HoldsO q v F):Lay T w0 w1 B { c with ac:=x,ao:=F,va:=v } s v1 v2 vs vt ((q.setCell ⟨B,35,none⟩ (.int .i64 x)).setCell ⟨B,36,none⟩ v):=by
 have h':=h.setCx 35 (.int .i64 x) { c with ac:=x } rfl rfl rfl rfl rfl;have hv':HoldsO (q.setCell ⟨B,35,none⟩ (.int .i64 x)) v F:=bS hv h.row h.tt.1 fun k _ hk=>heap_setCell_other q _ _ _ hk
 generalize q.setCell ⟨B,35,none⟩ (.int .i64 x)=z at *;have hr:=zH z B 36 _ _ v h'.row;rw [List.setIfInBounds_toArray] at hr;have hk:∀ k,k≠B→(z.setCell ⟨B,36,none⟩ v).heap[k]?=z.heap[k]?:=fun k hk=>heap_setCell_other z _ _ _ hk
 exact ⟨hr,ak h'.o1 fun g hg=>hk g fun e=>aq h'.o1 h'.row h.tt.1 (e ▸ hg),ak h'.o2 fun g hg=>hk g fun e=>aq h'.o2 h'.row h.tt.1 (e ▸ hg),ak h'.os fun g hg=>hk g fun e=>aq h'.os h'.row h.tt.2.1 (e ▸ hg),ak h'.ot fun g hg=>hk g fun e=>aq h'.ot h'.row h.tt.2.2 (e ▸ hg),ak h'.oh fun g hg=>hk g fun e=>aq h'.oh h'.row h.tt.1 (e ▸ hg),bS hv' h'.row h.tt.1 fun k _=>hk k,h.hB,h.tt,h.ap,h.aph,h.lo,h'.nr.setCell 36 v⟩
theorem Lay.asks9 (h:Lay T w0 w1 B c s v1 v2 vs vt q) (x:Cf):Lay T w0 w1 B c { s with e:=ee s.e x } v1 v2 vs vt ((((((q.setCell ⟨B,6,none⟩ (.int .i64 x.m)).setCell ⟨B,7,none⟩ (.int .i64 x.a)).setCell ⟨B,8,none⟩ (.int .i64 x.g)).setCell ⟨B,9,none⟩ (.bool x.p)).setCell ⟨B,10,none⟩ (.bool x.c)).setCell ⟨B,11,none⟩ (.bool x.d)) :=
 (((((h.setRaw 6 (.int .i64 x.m) { s.e with m2:=x.m } rfl).setRaw 7 (.int .i64 x.a) { s.e with m2:=x.m,a2:=x.a } rfl).setRaw 8 (.int .i64 x.g) { s.e with m2:=x.m,a2:=x.a,g2:=x.g } rfl).setRaw 9 (.bool x.p) { s.e with m2:=x.m,a2:=x.a,g2:=x.g,p2:=x.p } rfl).setRaw 10 (.bool x.c) { s.e with m2:=x.m,a2:=x.a,g2:=x.g,p2:=x.p,c2:=x.c } rfl).setRaw 11 (.bool x.d) (ee s.e x) rfl
end Go.Proofs.YtjebigodbnefiaaGreatDoor
namespace Go.Proofs.YtjebigodbnefiaaGreatDoor
open Go.RowKit Go.Proofs.Tryz
theorem fc {t u:ByteArray} (h:t.toList=u.toList):t=u:=by
 rw [ByteArray.toList_eq,ByteArray.toList_eq] at h;exact ByteArray.ext (Array.ext' h)
theorem qz {w0 w1:World} {B n:Nat} {c:Cx} {s:St} {v1 v2 vs vt:Value} {q:World} (h:Lay 182 w0 w1 B c s v1 v2 vs vt q) (hf:Fit n c s) :
  Calls prog 182 #[.pointer (some ⟨B,0,none⟩)] q fun r q'=>Lay 182 w0 w1 B c s v1 v2 vs vt q'∧r=.returned (.tuple #[.int .i64 (if c.ci=s.e.id∧c.cd=co (Op.bytes s.F1) then 8 else 0),.int .i64 (if c.ci=s.e.id∧c.cd=co (Op.bytes s.F1) then 0 else 8)]):=by
 have hm:s.F1.length≤maxLen:=by have:=Op.right_len (bz hf.f1);unfold maxLen;omega
 have CB:Hid (∀ z,Lay 182 w0 w1 B c s v1 v2 vs vt z→Calls prog 5 #[v1] z fun e w'=>e=.returned (.string (rD s.F1))∧Below z.heap.size z w'):=aa fun z hz=>cP v1 s.F1 z hm (HoldsO.own hz.o1)
 have HE:Hid (∀ z,Lay 182 w0 w1 B c s v1 v2 vs vt z→z.cell? ⟨B,32,none⟩=some (.int .i64 c.ci)∧z.cell? ⟨B,15,none⟩=some (.int .i64 s.e.id)∧z.cell? ⟨B,33,none⟩=some (.string c.cd)∧z.cell? ⟨B,17,none⟩=some v1):=aa fun z h3=>zA (h3.cell (i:=32) rfl) (zA (h3.cell (i:=15) rfl) (zA (h3.cell (i:=33) rfl) (h3.cell (i:=17) rfl)))
 have ho:rD s.F1=co (Op.bytes s.F1):=by unfold rD Op.told;rw [if_pos (bz hf.f1)]
 rw [ho] at CB;have HL:=aa h;clear h hm hf ho;generalize co (Op.bytes s.F1)=u at *;generalize c.ci=x at *;generalize s.e.id=y at *;generalize c.cd=t at *;by_cases hi:x=y
 ·subst hi;by_cases hu:t=u
  ·subst hu;rw [if_pos ⟨rfl,rfl⟩,if_pos ⟨rfl,rfl⟩];go_enter func182,ntmps182
   go_upto_region 1 with fail
   have E1:=aa ((uh HL).step (zC _ _).drew);refine wp_region_held_drew (S:=fun y9=>y9.cell? ⟨B,32,none⟩=some (.int .i64 x)∧y9.cell? ⟨B,15,none⟩=some (.int .i64 x)∧y9.cell? ⟨B,33,none⟩=some (.string t)∧y9.cell? ⟨B,17,none⟩=some v1) (by kernel_rfl) (uh HE _ (uh E1)) (fun hHeld=>?_);generalize q.drew=yy at E1 hHeld ⊢;clear HL;refine tq 0 1 2 3 ?_;refine tq 4 5 6 7 ?_;refine tq 8 9 10 11 ?_;refine tq 12 13 14 15 ?_;refine tq 16 17 18 19 ?_;refine tt 20 21 ?_;refine r3 22 fun K hK=>?_
   go_simp;refine (uh CB _ (uh E1)).mono ?_;rintro e z3 ⟨rfl,hb3⟩;have E3:=aa ((uh E1).step hb3);clear hb3;go_wp2_with fail
   refine ro hK (uh HE _ (uh E3)) fun _=>?_
   clear hK K;refine tt 23 24 ?_;refine dn ?_ _;go_wp2
   refine bodyPost_ret (v:=.tuple #[.int .i64 8,.int .i64 0]) (by simp [results,results182,go_sem]) rfl ⟨uh E3,rfl⟩
  ·rw [if_neg fun h=>hu h.2,if_neg fun h=>hu h.2];have hu2:(t.toList != u.toList)=true:=by
    rw [bne_iff_ne];intro e;exact hu (fc e)
   have hu3:(t.toList == u.toList)=false:=by
    rw [beq_eq_false_iff_ne];intro e;exact hu (fc e)
   go_enter func182,ntmps182
   go_upto_region 1 with fail
   have E1:=aa ((uh HL).step (zC _ _).drew);refine wp_region_held_drew (S:=fun y9=>y9.cell? ⟨B,32,none⟩=some (.int .i64 x)∧y9.cell? ⟨B,15,none⟩=some (.int .i64 x)∧y9.cell? ⟨B,33,none⟩=some (.string t)∧y9.cell? ⟨B,17,none⟩=some v1) (by kernel_rfl) (uh HE _ (uh E1)) (fun hHeld=>?_);generalize q.drew=yy at E1 hHeld ⊢;clear HL;refine tq 0 1 2 3 ?_;refine tq 4 5 6 7 ?_;refine tq 8 9 10 11 ?_;refine tq 12 13 14 15 ?_;refine tq 16 17 18 19 ?_;refine tt 20 21 ?_;refine r3 22 fun K hK=>?_
   go_simp;refine (uh CB _ (uh E1)).mono ?_;rintro e z3 ⟨rfl,hb3⟩;have E3:=aa ((uh E1).step hb3);clear hb3;go_wp2_with fail
   refine ro hK (uh HE _ (uh E3)) fun _=>?_
   clear hK K;refine tt 23 24 ?_;refine dn ?_ _;go_wp2
   refine bodyPost_ret (v:=.tuple #[.int .i64 0,.int .i64 8]) (by simp [results,results182,go_sem]) rfl ⟨uh E3,rfl⟩
 ·rw [if_neg fun h=>hi h.1,if_neg fun h=>hi h.1];have hi2:(x != y)=true:=by simpa using hi
  have hi3:(x == y)=false:=by simpa using hi
  go_enter func182,ntmps182
  go_upto_region 1 with fail
  have E1:=aa ((uh HL).step (zC _ _).drew);refine wp_region_held_drew (S:=fun y9=>y9.cell? ⟨B,32,none⟩=some (.int .i64 x)∧y9.cell? ⟨B,15,none⟩=some (.int .i64 y)∧y9.cell? ⟨B,33,none⟩=some (.string t)∧y9.cell? ⟨B,17,none⟩=some v1) (by kernel_rfl) (uh HE _ (uh E1)) (fun hHeld=>?_);generalize q.drew=yy at E1 hHeld ⊢;clear HL;refine tq 0 1 2 3 ?_;refine tq 4 5 6 7 ?_;refine tq 8 9 10 11 ?_;refine t5 12 ?_;refine t5 13 ?_;refine t5 14 ?_;refine t5 15 ?_;refine t5 16 ?_;refine t5 17 ?_;refine t5 18 ?_;refine t5 19 ?_;refine t5 20 ?_;refine t5 21 ?_;refine t5 22 ?_;refine t5 23 ?_;refine t2 24 ?_;refine dn ?_ _;go_wp2
  refine bodyPost_ret (v:=.tuple #[.int .i64 0,.int .i64 8]) (by simp [results,results182,go_sem]) rfl ⟨uh E1,rfl⟩
end Go.Proofs.YtjebigodbnefiaaGreatDoor
namespace Go.Proofs.YtjebigodbnefiaaGreatDoor
open Go.RowKit Go.Proofs.Tryz
theorem xF {w0 w1:World} {B:Nat} {c:Cx} {s:St} {v1 v2 vs vt:Value} {q:World} (h:Lay 182 w0 w1 B c s v1 v2 vs vt q) (hs:c.cd.size≤250) :
  Calls prog 184 #[.pointer (some ⟨B,0,none⟩)] q fun r q'=>q'=q∧r=.returned (.tuple #[.int .i64 (if c.cd.size=0 then 0 else if f_ c.cd=true then 14 else 13),.int .i64 (if c.cd.size=0 then 4 else 0)]):=by
 have k:=h.cell (i:=33) rfl;clear h;obtain ⟨t,ht⟩:∃ t,c.cd=t:=⟨_,rfl⟩;rw [ht] at hs ⊢;have c33:q.cell? ⟨B,33,none⟩=some (.string t):=ht ▸ k;clear k ht;obtain ⟨⟨l⟩⟩:=t;cases l with
 | nil =>
  go_enter func184,ntmps184
  go_wp2
  refine bodyPost_ret (v:=.tuple #[.int .i64 0,.int .i64 4]) (by simp [results,results184,go_sem]) rfl ⟨rfl,rfl⟩
 | cons b l =>
  have d0:(ByteArray.mk ⟨b :: l⟩).toList.isEmpty=false:=by rw [ByteArray.toList_eq];rfl
  have d1:¬ (ByteArray.mk ⟨b :: l⟩).size=0:=by show ¬ (l.length+1=0);omega
  have d2:f_ ⟨⟨b :: l⟩⟩=al 1 7 b.toNat:=by
   show decide (1≤b.toNat∧b.toNat≤7)=_
   unfold al;rw [Bool.eq_iff_iff];simp;omega
  rw [d2,if_neg d1,if_neg d1];clear d2;have wb:wrap64 (b.toNat:Int)=(b.toNat:Int):=by
   have:=b.toNat_lt
   unfold wrap64;omega
  have d3:0<(ByteArray.mk ⟨b :: l⟩).size:=by show 0<l.length+1;omega
  cases hb:al 1 7 (b.toNat:Int)
  ·have hb2:al 1 7 (wrap64 (((ByteArray.mk ⟨b :: l⟩)[0]'d3).toNat:Int))=false:=by show al 1 7 (wrap64 (b.toNat:Int))=false;rw [wb];exact hb
   go_enter func184,ntmps184
   go_wp2_with (first | (go_at_call 150;refine (cE _ _ _ _).mono ?_;rintro e wx ⟨rfl,hw⟩;replace hw:=hw.symm;subst hw;rw [hb2]))
   refine bodyPost_ret (v:=.tuple #[.int .i64 13,.int .i64 0]) (by simp [results,results184,go_sem]) rfl ⟨rfl,rfl⟩
  ·have hb2:al 1 7 (wrap64 (((ByteArray.mk ⟨b :: l⟩)[0]'d3).toNat:Int))=true:=by show al 1 7 (wrap64 (b.toNat:Int))=true;rw [wb];exact hb
   go_enter func184,ntmps184
   go_wp2_with (first | (go_at_call 150;refine (cE _ _ _ _).mono ?_;rintro e wx ⟨rfl,hw⟩;replace hw:=hw.symm;subst hw;rw [hb2]))
   refine bodyPost_ret (v:=.tuple #[.int .i64 14,.int .i64 0]) (by simp [results,results184,go_sem]) rfl ⟨rfl,rfl⟩
end Go.Proofs.YtjebigodbnefiaaGreatDoor
namespace Go.Proofs.YtjebigodbnefiaaGreatDoor
open Go.RowKit Go.Proofs.Tryz
theorem Bh {n:Nat} {r:List UInt8} (h:n<4∨254<n∨r.length+4<n):oL 4 250 n r=true:=decide_eq_true (by omega)
theorem As {n:Nat} {r:List UInt8} (h:¬ (n<4∨254<n∨r.length+4<n)):oL 4 250 n r=false:=decide_eq_false (by omega)
def zm (w w':World) (o:Op.Out) (e:Ending):Prop :=
 (∃ c,(c=3∨c=4)∧o=Op.no c∧e=.returned (.tuple #[.agg dc,cS c])∧Below w.heap.size w w')∨(∃ a b:UInt8,∃ t,o=⟨⟨(a.toNat:Int),(b.toNat:Int),t⟩,0⟩∧ud w w' a b t e)
theorem xP (w:World) (Pb B:Nat) (v:Value) (l:List UInt8) (hl8:l.length≤8000) (hP:w.heap[Pb]?=some (.cells #[.int .i64 0,.int .i64 0,.int .i64 2,.int .i64 3] 273)) (hB:B<w.heap.size) (hv:Rest w B v l) :
  Calls prog 178 #[.agg #[.slice (some ⟨Pb,0,none⟩) 4 4,.int .i64 4,.int .i64 250,.int .i64 4],v] w fun e w'=>zm w w' (Op.pread l) e:=by
 rcases l with _ | ⟨a,_ | ⟨b,_ | ⟨c,_ | ⟨d,r⟩⟩⟩⟩
 ·exact (pG w Pb B v hP hB hv).mono fun e w' ⟨h1,h2⟩=>Or.inl ⟨4,Or.inr rfl,Op.pread_short (by simp),h1,h2⟩
 ·exact (pH w Pb B v a hP hB hv).mono fun e w' ⟨h1,h2⟩=>Or.inl ⟨4,Or.inr rfl,Op.pread_short (by simp),h1,h2⟩
 ·exact (pK w Pb B v a b hP hB hv).mono fun e w' ⟨h1,h2⟩=>Or.inl ⟨4,Or.inr rfl,Op.pread_short (by simp),h1,h2⟩
 ·exact (pN w Pb B v a b c hP hB hv).mono fun e w' ⟨h1,h2⟩=>Or.inl ⟨4,Or.inr rfl,Op.pread_short (by simp),h1,h2⟩
 ·have h8:r.length+4≤8000:=by simpa using hl8
  by_cases hb:256*c.toNat+d.toNat<4∨254<256*c.toNat+d.toNat∨r.length+4<256*c.toNat+d.toNat
  ·exact (xO w Pb B v a b c d r hP hB hv (Bh hb)).mono fun e w' ⟨h1,h2⟩=>Or.inl ⟨3,Or.inl rfl,Op.pread_bad h8 hb,h1,h2⟩
  ·exact (ul w Pb B v a b c d r _ hP hB hv rfl (As hb)).mono fun e w' h1=>Or.inr ⟨a,b,_,Op.pread_good h8 hb,h1⟩
theorem ml (w:World):Calls prog 179 #[] w fun e w'=>e=.returned (.agg #[.slice (some ⟨w.heap.size+1,0,none⟩) 4 4,.int .i64 4,.int .i64 250,.int .i64 4]) ∧
  w'.heap[w.heap.size+1]?=some (.cells #[.int .i64 0,.int .i64 0,.int .i64 2,.int .i64 3] 273)∧Below w.heap.size w w':=by
 go_enter func179,ntmps179
 go_wp2
 refine bodyPost_ret (v:=.agg #[.slice (some ⟨w.heap.size+1,0,none⟩) 4 4,.int .i64 4,.int .i64 250,.int .i64 4]) (by simp [results,results179,go_sem]) rfl ⟨rfl,?_,((zC _ _).alloc (zD _) _).alloc (by simp) _⟩;have h:=zF (w.alloc (.cells #[.slice (some ⟨w.heap.size+1,0,none⟩) 4 4,.int .i64 4,.int .i64 250,.int .i64 4] 250)) (.cells #[.int .i64 0,.int .i64 0,.int .i64 2,.int .i64 3] 273);rw [show (w.alloc (.cells #[.slice (some ⟨w.heap.size+1,0,none⟩) 4 4,.int .i64 4,.int .i64 250,.int .i64 4] 250)).heap.size=w.heap.size+1 by simp] at h;exact h
def Bi (p:Op.Pk):Value:=.agg #[.int .i64 p.code,.int .i64 p.id,.string p.data]
def sI (c:Int):Value:=if c=0 then .nilIface else cS c
theorem pS {w:World} {base:Nat} {sa:Option Addr} {n sc:Nat} {xs:List Value} (h:w.ownsRow base 2 1 (.slice sa n sc) n xs) (hn:0<n):∃ g,sa=some ⟨g,0,none⟩∧base≤g∧g<w.heap.size∧n≤sc∧∀ i x,xs[i]?=some x→w.cell? ⟨g,i,none⟩=some x:=by
 rcases h.2 with ⟨_,h0⟩ | ⟨g,cap,cur,h1,h2,h3,h4,h5,h6,h7⟩
 ·omega
 ·simp only [Value.slice.injEq,true_and] at h1;obtain ⟨rfl,rfl⟩:=h1;refine ⟨g,rfl,h2,(ge.1 h3).1,h4,fun i x hx=>?_⟩;rw [cr h3,← hx,← h7,List.getElem?_take,if_pos,Array.getElem?_toList];have:=(List.getElem?_eq_some_iff.1 hx).1
  have hl:=h.1;omega
theorem zn:(prog.info? 32).map (·.size)=some 3:=by kernel_rfl
theorem nj {w:World} {B:Nat} {x0 x1 x2:Value} {T:TypeId} (h:w.heap[B]?=some (.cells #[x0,x1,x2] T)) :
  w.cell? ⟨B,0,none⟩=some x0∧w.cell? ⟨B,1,none⟩=some x1∧w.cell? ⟨B,2,none⟩=some x2∧w.frozen? ⟨B,0,none⟩=false∧w.frozen? ⟨B,1,none⟩=false∧w.frozen? ⟨B,2,none⟩=false :=
 ⟨by rw [cr h];rfl,by rw [cr h];rfl,by rw [cr h];rfl,aX h _,aX h _,aX h _⟩
theorem re {W:World} {E:Nat} {x0 x1 x2:Value} (h:W.heap[E]?=some (.cells #[x0,x1,x2] 32)):(loadVar 32 ⟨E,0,none⟩).run prog W=.ok (.agg #[x0,x1,x2]) W :=
 run_loadVar_row (P:=prog) _ _ 32 32 #[x0,x1,x2] (0,0) _ h underlying32 rfl zn
theorem rf {W:World} {E:Nat} {z0 z1 z2:Value} {T:TypeId} (h:W.heap[E]?=some (.cells #[z0,z1,z2] T)) (x0 x1 x2:Value) :
  (((W.setCell ⟨E,0,none⟩ x0).setCell ⟨E,1,none⟩ x1).setCell ⟨E,2,none⟩ x2).heap[E]?=some (.cells #[x0,x1,x2] T) :=
 zH _ _ 2 _ _ x2 (zH _ _ 1 _ _ x1 (zH _ _ 0 _ _ x0 h))
theorem uo (w:World) (B:Nat) (v:Value) (l:List UInt8) (hl8:l.length≤8000) (hB:B<w.heap.size) (hv:Rest w B v l) :
  Calls prog 158 #[v] w fun e w'=>e=.returned (.tuple #[Bi (Op.pread l).pk,sI (Op.pread l).code])∧Below w.heap.size w w':=by
 have C:=aa fun w Pb v hP hB hv=>xP w Pb B v l hl8 hP hB hv
 generalize Op.pread l=o at *;have HV:=aa hv;obtain ⟨off,cap,hvf,_⟩:=hv;subst hvf;go_enter func158,ntmps158
 go_wp2_with fail
 refine (ml _).mono ?_;rintro e w1 ⟨rfl,hP,hb1⟩;have hsz:(w.alloc (.cells #[.int .i64 0,.int .i64 0,.string ⟨#[]⟩] 32)).heap.size=w.heap.size+1:=by simp
 have hO1:w1.heap[w.heap.size]?=some (.cells #[.int .i64 0,.int .i64 0,.string ⟨#[]⟩] 32):=(hb1.block w.heap.size (by rw [hsz];omega)).trans (zF w _);have hs1:=hb1.size;rw [hsz] at hs1 hP;have hb01:Below w.heap.size w w1:=((zC _ _).alloc (zD _) _).trans (hb1.mono (by rw [hsz];omega));have hv1:=(uh HV).same (hb01.block B hB);clear hb1 HV;go_wp2_with fail
 refine (uh C w1 _ _ hP (by omega) hv1).mono ?_;rintro e w2 h;rcases h with ⟨c,hc,rfl,rfl,hb2⟩ | ⟨a,b,t,rfl,Pb',B',off',n',cap',sa,sc,x,rfl,ho,hb2⟩
 ·have hO2:=(hb2.block w.heap.size (by omega)).trans hO1;have hlt2:w.heap.size<w2.heap.size:=(ge.1 hO2).1;have hb3:=hb01.trans (hb2.mono hb01.size);obtain ⟨c0,c1,c2,f0,f1,f2⟩:=nj hO2;have FIN:=aa fun X x0 x1 x2=>re ((zG (((w2.setCell ⟨w.heap.size,0,none⟩ x0).setCell ⟨w.heap.size,1,none⟩ x1).setCell ⟨w.heap.size,2,none⟩ x2) X _ (by simpa [World.setCell] using hlt2)).trans (rf hO2 x0 x1 x2))
  have HE:Hid (sI c=.iface 257 (.agg #[.int .i64 c])):=aa (by unfold sI;rw [if_neg (by omega)];rfl);unfold dc cS;clear C hO1 hO2 hb2 hP hv1 hc;go_wp2
  refine bodyPost_ret (v:=.tuple #[.agg #[.int .i64 0,.int .i64 0,.string ⟨#[]⟩],.iface 257 (.agg #[.int .i64 c])]) (by simp [results,results158,asAddr,uh FIN]) rfl ⟨?_,?_⟩
  ·unfold Bi Op.no;dsimp only;rw [uh HE]
  ·exact (((hb3.setCell (p:=⟨w.heap.size,0,none⟩) (zD _) _).setCell (p:=⟨w.heap.size,1,none⟩) (zD _) _).setCell (p:=⟨w.heap.size,2,none⟩) (zD _) _).alloc (by simp;omega) _
 ·have hO2:=(hb2.block w.heap.size (by omega)).trans hO1;have hlt2:w.heap.size<w2.heap.size:=(ge.1 hO2).1;have hb3:=hb01.trans (hb2.mono hb01.size);obtain ⟨c0,c1,c2,f0,f1,f2⟩:=nj hO2;obtain ⟨g,rfl,hg1,hg2,hsc,hgc⟩:=pS ho (by decide);have g0:=hgc 0 _ rfl;have g1:=hgc 1 _ rfl;have HO2:=aa hO2;have HG:=aa (zA g0 g1);clear C hO1 hO2 hb2 hP hv1 ho hgc g0 g1;go_wp2
  refine aI (fun q=>q.heap[w2.heap.size]?=some (.cells #[.slice (some ⟨Pb',0,none⟩) 4 4,.int .i64 4,.int .i64 250,.int .i64 4,.slice (some ⟨B',off',none⟩) n' cap',.slice (some ⟨g,0,none⟩) 2 sc,.int .i64 x,.string t] 253)∧q.heap[w.heap.size]?=some (.cells #[.int .i64 0,.int .i64 0,.string ⟨#[]⟩] 32)∧q.cell? ⟨g,0,none⟩=some (.int .i64 a.toNat)∧q.cell? ⟨g,1,none⟩=some (.int .i64 b.toNat)∧Below w.heap.size w q)
   ⟨zF w2 _,(zG _ _ _ hlt2).trans (uh HO2),(((zC w2.heap.size w2).alloc (zD _) _).cell (p:=⟨g,0,none⟩) hg2).trans (uh HG).1,(((zC w2.heap.size w2).alloc (zD _) _).cell (p:=⟨g,1,none⟩) hg2).trans (uh HG).2,hb3.alloc hb3.size _⟩ ?_
  rintro q ⟨hr,ho,g0,g1,hbq⟩;clear c0 c1 c2 f0 f1 f2;obtain ⟨e0,e1,e2,e3,e4,e5,e6,e7,_⟩:=j_ hr;obtain ⟨c0,c1,c2,f0,f1,f2⟩:=nj ho;have hne:¬ (w2.heap.size=w.heap.size):=by omega
  have HO:=aa ho;have FIN:=aa fun x0 x1 x2=>re (W:=(((q.setCell ⟨w.heap.size,0,none⟩ x0).setCell ⟨w.heap.size,1,none⟩ x1).setCell ⟨w.heap.size,2,none⟩ x2).drew) (rf ho x0 x1 x2)
  clear hr ho HG HO2 hb3 hb01;go_region
  go_wp2
  refine bodyPost_ret (v:=.tuple #[.agg #[.int .i64 a.toNat,.int .i64 b.toNat,.string t],.nilIface]) (by simp [results,results158,asAddr,uh FIN]) rfl ⟨rfl,?_⟩;exact (((hbq.setCell (p:=⟨w.heap.size,0,none⟩) (zD _) _).setCell (p:=⟨w.heap.size,1,none⟩) (zD _) _).setCell (p:=⟨w.heap.size,2,none⟩) (zD _) _).drew
def Be (o:Op.Out):Value:=.agg #[.int .i64 o.pk.code,.int .i64 o.pk.id,.string o.pk.data,.int .i64 o.code]
theorem zo:(prog.info? 185).map (·.size)=some 4:=by kernel_rfl
theorem At {W:World} {E:Nat} {x0 x1 x2 x3:Value} (h:W.heap[E]?=some (.cells #[x0,x1,x2,x3] 185)):(loadVar 185 ⟨E,0,none⟩).run prog W=.ok (.agg #[x0,x1,x2,x3]) W :=
 run_loadVar_row (P:=prog) _ _ 185 185 #[x0,x1,x2,x3] (0,0) _ h underlying185 rfl zo
theorem xQ {W:World} {E:Nat} {z0 z1 z2 z3:Value} {T:TypeId} (h:W.heap[E]?=some (.cells #[z0,z1,z2,z3] T)) (x0 x1 x2 x3:Value) :
  ((((W.setCell ⟨E,0,none⟩ x0).setCell ⟨E,1,none⟩ x1).setCell ⟨E,2,none⟩ x2).setCell ⟨E,3,none⟩ x3).heap[E]?=some (.cells #[x0,x1,x2,x3] T) :=
 zH _ _ 3 _ _ x3 (zH _ _ 2 _ _ x2 (zH _ _ 1 _ _ x1 (zH _ _ 0 _ _ x0 h)))
theorem uq (c:Int) (w:World) (hE:Et w):Calls prog 159 #[sI c] w fun e w'=>e=.returned (.int .i64 c)∧Below w.heap.size w w':=by
 unfold sI;by_cases h:c=0
 ·subst h;exact pu w
 ·rw [if_neg h];exact my c w hE
theorem Au {w:World} {B:Nat} {x0 x1 x2 x3:Value} {T:TypeId} (h:w.heap[B]?=some (.cells #[x0,x1,x2,x3] T)) :
  w.cell? ⟨B,0,none⟩=some x0∧w.cell? ⟨B,1,none⟩=some x1∧w.cell? ⟨B,2,none⟩=some x2∧w.cell? ⟨B,3,none⟩=some x3∧w.frozen? ⟨B,0,none⟩=false∧w.frozen? ⟨B,1,none⟩=false∧w.frozen? ⟨B,2,none⟩=false∧w.frozen? ⟨B,3,none⟩=false :=
 ⟨(qr h).1,(qr h).2.1,(qr h).2.2.1,(qr h).2.2.2,aX h _,aX h _,aX h _,aX h _⟩
theorem nm (t:ByteArray) (w:World) (ht:t.size≤maxLen) (hE:Et w) :
  Calls prog 135 #[.string t] w fun e w'=>e=.returned (Be (Op.pread t.data.toList))∧Below w.heap.size w w':=by
 have hlt0:=hE.lt;unfold maxLen at ht;by_cases h8:t.size≤8000
 ·have d0:¬ ((8000:Int)<(t.size:Int)):=by omega
  have hl8:t.data.toList.length≤8000:=by rw [bC];exact h8
  obtain ⟨cap,W1,hcv,hcap,hl1,hb1,hlt1⟩:=kT t (w.alloc (.cells #[.int .i64 0,.int .i64 0,.string ⟨#[]⟩,.int .i64 0] 185));have hW:(w.alloc (.cells #[.int .i64 0,.int .i64 0,.string ⟨#[]⟩,.int .i64 0] 185)).heap.size=w.heap.size+1:=by simp
  rw [hW] at hcv hb1 hlt1 hl1;have C1:=aa (uo W1 (w.heap.size+1) _ t.data.toList hl8 hlt1 ⟨0,cap,rfl,hcap,hl1⟩);rw [bC] at C1 hcv;have hO1:W1.heap[w.heap.size]?=some (.cells #[.int .i64 0,.int .i64 0,.string ⟨#[]⟩,.int .i64 0] 185):=(hb1.block w.heap.size (Nat.lt_succ_self _)).trans (zF w _);have hB1:Below w.heap.size w W1:=((zC _ _).alloc (zD _) _).trans (hb1.mono (Nat.le_succ _));have HX:=aa (zA hO1 hB1);generalize Op.pread t.data.toList=o at *;obtain ⟨⟨pc,pi,pd⟩,oc⟩:=o;have CC:=aa fun v hv=>uq oc v hv
  generalize sI oc=EV at *;unfold Bi at C1;unfold Be;dsimp only at C1 ⊢;clear hl1 hb1 hO1 hB1 hcap hW hl8;go_enter func135,ntmps135
  go_wp2_with fail
  refine (uh C1).mono ?_;rintro e W2 ⟨rfl,hb2⟩;have hO2:=(hb2.block w.heap.size (by omega)).trans (uh HX).1;have hB2:Below w.heap.size w W2:=(uh HX).2.trans (hb2.mono (uh HX).2.size);have hlt2:w.heap.size<W2.heap.size:=(ge.1 hO2).1;have HO2:=aa hO2;clear HX C1 hcv hb2 hO2;go_wp2_with fail
  refine aI (fun q=>q.heap[W2.heap.size]?=some (.cells #[.int .i64 pc,.int .i64 pi,.string pd] 32)∧q.heap[w.heap.size]?=some (.cells #[.int .i64 0,.int .i64 0,.string ⟨#[]⟩,.int .i64 0] 185)∧Below w.heap.size w q)
   ⟨zF W2 _,(zG _ _ _ hlt2).trans (uh HO2),hB2.alloc hB2.size _⟩ ?_
  rintro q ⟨hr,ho,hbq⟩;have hEq:Et q:=hE.below hbq hlt0;have hl1:W2.heap.size<q.heap.size:=(ge.1 hr).1;have hl2:w.heap.size<q.heap.size:=Nat.lt_trans hlt2 hl1;obtain ⟨c0,c1,c2,_,_,_⟩:=nj hr;have HR:=aa hr;have HO:=aa ho;have HB:=aa hbq;have HE:=aa hEq;clear hr ho hbq HO2 hB2 hE hEq
  go_region_with (first
   | (go_at_call 159;refine (uh CC _ ?_).mono ?_;exact uh HE;rintro e w3 ⟨rfl,hb3⟩;have hr3:=(hb3.block W2.heap.size hl1).trans (uh HR);have ho3:=(hb3.block w.heap.size hl2).trans (uh HO);obtain ⟨k0,k1,k2,_,_,_⟩:=nj hr3;obtain ⟨o0,o1,o2,o3,p0,p1,p2,p3⟩:=Au ho3;have hbb:=(uh HB).drew.trans (hb3.mono (uh HB).size);have HH:=aa (zA ho3 hbb);clear hr3 ho3 hb3 hbb))
  all_goals
   go_wp2
   refine bodyPost_ret (v:=.agg #[.int .i64 pc,.int .i64 pi,.string pd,.int .i64 oc]) (by simp [results,results135,asAddr,At (xQ (uh HH).1 (.int .i64 pc) (.int .i64 pi) (.string pd) (.int .i64 oc))]) rfl ⟨rfl,?_⟩;exact ((((uh HH).2.setCell (p:=⟨w.heap.size,0,none⟩) (zD _) _).setCell (p:=⟨w.heap.size,1,none⟩) (zD _) _).setCell (p:=⟨w.heap.size,2,none⟩) (zD _) _).setCell (p:=⟨w.heap.size,3,none⟩) (zD _) _
 ·have d0:(8000:Int)<(t.size:Int):=by omega
  rw [Op.pread_long (by rw [bC];omega)];go_enter func135,ntmps135
  go_wp2
  refine bodyPost_ret (v:=Be (Op.no 2)) ?_ rfl ⟨rfl,(zC _ _).alloc (zD _) _⟩;simp [results,results135,go_sem,Be,Op.no]
end Go.Proofs.YtjebigodbnefiaaGreatDoor
namespace Go.Proofs.YtjebigodbnefiaaGreatDoor
open Go.RowKit Go.Proofs.Tryz
def RowB (w:World) (base:Nat) (v:Value) (l:List UInt8):Prop :=
 (v=.slice none 0 0∧l=[])∨∃ g cap cur fz,v=.slice (some ⟨g,0,none⟩) l.length cap∧base≤g∧w.heap[g]?=some (.cells cur 5 fz)∧l.length≤cap∧cap≤maxLen∧cap≤cur.size∧cur.toList.take l.length=bh l∧∀ i,i<cap→¬ (fz.1≤i∧i<fz.2)
theorem RowB.nil (w:World) (base:Nat):RowB w base (.slice none 0 0) []:=Or.inl ⟨rfl,rfl⟩
theorem RowB.own {w:World} {base:Nat} {v:Value} {l:List UInt8} (h:w.ownsRow base 5 1 v l.length (bh l)):RowB w base v l:=by
 rcases h.2 with ⟨h1,h2⟩ | ⟨g,cap,cur,h1,h2,h3,h4,h5,h6,h7⟩
 ·exact Or.inl ⟨h1,List.eq_nil_of_length_eq_zero h2⟩
 ·exact Or.inr ⟨g,cap,cur,(0,0),h1,h2,h3,h4,h5,by omega,by rw [Nat.mul_one] at h7;exact h7,fun i _ h=>by simp at h⟩
theorem RowB.keep {w w':World} {base:Nat} {v:Value} {l:List UInt8} (h:RowB w base v l) (hk:∀ g cur fz,base≤g→w.heap[g]?=some (.cells cur 5 fz)→w'.heap[g]?=w.heap[g]?):RowB w' base v l:=by
 rcases h with h | ⟨g,cap,cur,fz,h1,h2,h3,h4⟩
 ·exact Or.inl h
 ·exact Or.inr ⟨g,cap,cur,fz,h1,h2,(hk g cur fz h2 h3).trans h3,h4⟩
theorem RowB.form {w:World} {base:Nat} {v:Value} {l:List UInt8} (h:RowB w base v l):∃ ad cp,v=.slice ad l.length cp:=by
 rcases h with ⟨rfl,rfl⟩ | ⟨g,cap,cur,fz,h1,_⟩
 ·exact ⟨_,_,rfl⟩
 ·exact ⟨_,_,h1⟩
theorem vy (l:List UInt8) (i:Nat):(bh l)[i]?=l[i]?.map fun (c:UInt8)=>Value.int .u8 (c.toNat:Int):=by simp [bh,mp,Function.comp_def]
theorem vz {w:World} {g:Nat} {cur:Array Value} {fz:Nat × Nat} {l:List UInt8} (h3:w.heap[g]?=some (.cells cur 5 fz)) (h7:cur.toList.take l.length=bh l) (i:Nat) (hi:i<l.length):w.cell? ⟨g,i,none⟩=(bh l)[i]?:=by
 rw [cr h3,← h7,List.getElem?_take,if_pos hi,Array.getElem?_toList]
theorem RowB.conv {w:World} {base:Nat} {v:Value} {l:List UInt8} (h:RowB w base v l):(convert 22 9 v).run prog w=.ok (.string (co l)) w:=by
 rcases h with ⟨rfl,rfl⟩ | ⟨g,cap,cur,fz,rfl,_,h3,_,_,_,h7,_⟩
 ·exact eK (World.ownsRow_nil w 0 5 1)
 ·refine run_convert_bytes_back (P:=prog) w 22 9 5 ⟨g,0,none⟩ cap l underlying22 underlying5 underlying9 (fun j hj=>?_);rw [Addr.add_lit,Nat.zero_add,vz h3 h7 j hj,vy,List.getElem?_eq_getElem hj];rfl
end Go.Proofs.YtjebigodbnefiaaGreatDoor
namespace Go.Proofs.YtjebigodbnefiaaGreatDoor
open Go.RowKit Go.Proofs.Tryz
def vF:Value→Bool
 | .agg _=>true
 | _=>false
theorem qp {z:Value} (h:vF z=true):∃ Z,z=.agg Z:=by
 cases z<;>first | exact ⟨_,rfl⟩ | cases h
theorem AG:∃ (it:TypeInfo) (z:Value),prog.info? 168=some it∧it.zero=some z∧it.size=1109∧z.cells.size=1109∧z.cells[307]?=some (.int .i64 0)∧z.cells[1108]?=some (.int .i64 0)∧z.cells.toList.all (fun v=>v.oneCell')=true∧(∃ Z,z=.agg Z):=by
 have h1:(prog.info? 168).map (fun i=>(i.zero.map fun z=>(z.cells.size,z.cells[307]?,z.cells[1108]?),i.size))=some (some (1109,some (.int .i64 0),some (.int .i64 0)),1109):=by kernel_rfl
 have h2:(prog.info? 168).map (fun i=>(i.zero.map fun z=>(z.cells.toList.all (fun v=>v.oneCell'),vF z)))=some (some (true,true)):=by kernel_rfl
 obtain ⟨it,hi,h3⟩:=Option.map_eq_some_iff.1 h1;rw [hi] at h2;simp only [Option.map_some,Option.some.injEq,Prod.mk.injEq] at h2 h3;obtain ⟨h4,h5⟩:=h3;obtain ⟨z,hz,h6⟩:=Option.map_eq_some_iff.1 h4;rw [hz] at h2;simp only [Option.map_some,Option.some.injEq,Prod.mk.injEq] at h2 h6;exact ⟨it,z,hi,hz,h5,h6.1,h6.2.1,h6.2.2,h2.1,qp h2.2⟩
def fY (Z:Array Value) (wide long:Bool) (fn:Value):Array Value:=((Z.setIfInBounds 0 (.bool wide)).setIfInBounds 1 (.bool long)).setIfInBounds 2 fn
theorem dcD (Z:Array Value) (hs:Z.size=1109) (h7:Z[307]?=some (.int .i64 0)) (h8:Z[1108]?=some (.int .i64 0)) (wide long:Bool) (g:Nat) :
  Dc (fY Z wide long (.func (.func 75) #[] #[.pointer (some ⟨g,0,none⟩)])) g wide long [] [] where
 size:=by simp [fY,hs]
 c0:=by unfold fY;rw [aN (by decide),aN (by decide),eI (by omega)]
 c1:=by unfold fY;rw [aN (by decide),eI (by rw [ce];omega)]
 c2:=by unfold fY;rw [eI (by rw [ce,ce];omega)]
 cz:=by unfold fY;rw [aN (by decide),aN (by decide),aN (by decide)];exact h7
 cn:=by unfold fY;rw [aN (by decide),aN (by decide),aN (by decide)];exact h8
 hl:=by simp
 fl:=by simp
 hv:=fun i c h=>by simp at h
 fk:=fun i f h=>by simp at h
 ft:=fun i f h=>by simp at h
theorem dcS (Z:Array Value) (hs:Z.size=1109) (h7:Z[307]?=some (.int .i64 0)) (h8:Z[1108]?=some (.int .i64 0)) (wide long:Bool) (g:Nat) :
  Dc (fH Z 0 (((Z.toList.set 0 (.bool wide)).set 1 (.bool long)).set 2 (.func (.func 75) #[] #[.pointer (some ⟨g,0,none⟩)]))) g wide long [] []:=by
 have e:fH Z 0 (((Z.toList.set 0 (.bool wide)).set 1 (.bool long)).set 2 (.func (.func 75) #[] #[.pointer (some ⟨g,0,none⟩)]))=fY Z wide long (.func (.func 75) #[] #[.pointer (some ⟨g,0,none⟩)]):=by
  apply Array.ext_getElem?
  intro j;have hl:(((Z.toList.set 0 (.bool wide)).set 1 (.bool long)).set 2 (.func (.func 75) #[] #[.pointer (some ⟨g,0,none⟩)])).length=1109:=by simp [hs]
  rw [d_ _ _ _ _ (by rw [hl,hs];omega),hl];unfold fY;by_cases hj:j<1109
  ·rw [if_pos (by omega),Nat.sub_zero];simp only [List.getElem?_set,Array.getElem?_setIfInBounds,List.length_set,Array.length_toList,Array.size_setIfInBounds,Array.getElem?_toList]
  ·rw [if_neg (by omega),aN (by omega),aN (by omega),aN (by omega)]
 rw [e];exact dcD Z hs h7 h8 wide long g
theorem rq (Z:Array Value) (hs:Z.size=1109) (ho:Z.toList.all (fun v=>v.oneCell')=true) (wide long:Bool) (g B:Nat) (W:World) (hB:W.heap[B]?=some (.cells Z 168)) :
  (storeCells ⟨B,0,none⟩ (((Z.toList.set 0 (.bool wide)).set 1 (.bool long)).set 2 (.func (.func 75) #[] #[.pointer (some ⟨g,0,none⟩)]))).run prog W=.ok () (W.setCells B 0 (((Z.toList.set 0 (.bool wide)).set 1 (.bool long)).set 2 (.func (.func 75) #[] #[.pointer (some ⟨g,0,none⟩)]))):=by
 have h:=run_storeCells_cells (P:=prog) B 0 (((Z.toList.set 0 (.bool wide)).set 1 (.bool long)).set 2 (.func (.func 75) #[] #[.pointer (some ⟨g,0,none⟩)])) 0 W (fun j hj=>by
  have hj2:j<1109:=by simpa [hs] using hj
  rw [cr hB,Array.getElem?_eq_getElem (by omega)];rfl) (fun j _=>aX hB _) (fun v hv=>by
  have h1:=List.all_eq_true.1 ho;rcases List.mem_or_eq_of_mem_set hv with hv | rfl
  ·rcases List.mem_or_eq_of_mem_set hv with hv | rfl
   ·rcases List.mem_or_eq_of_mem_set hv with hv | rfl
    ·exact h1 v hv
    ·rfl
   ·rfl
  ·rfl)
 simpa using h
theorem Dc.fill {cs:Array Value} {g:Nat} {wide long:Bool} (h:Dc cs g wide long [] []) (l:List UInt8) (hl:l.length≤304) (s:Int) (hs:s=(l.length:Int)) :
  Dc ((fH cs 3 (bh l)).setIfInBounds 307 (.int .i64 s)) g wide long l []:=by
 have hb:3+(bh l).length≤cs.size:=by rw [oX,h.size];omega
 have ho:∀ j,j<3∨307≤j→(fH cs 3 (bh l))[j]?=cs[j]?:=fun j hj=>by
  rw [d_ _ _ _ _ hb,if_neg (by rw [oX];omega)]
 constructor
 ·rw [ce,gy,h.size]
 ·rw [aN (by decide),ho _ (by omega)];exact h.c0
 ·rw [aN (by decide),ho _ (by omega)];exact h.c1
 ·rw [aN (by decide),ho _ (by omega)];exact h.c2
 ·rw [eI (by rw [gy,h.size];decide),hs]
 ·rw [aN (by decide),ho _ (by omega)];exact h.cn
 ·exact hl
 ·simp
 ·intro i c hc;have hi:=fx hc;rw [aN (by omega),d_ _ _ _ _ hb,if_pos (by rw [oX];omega),show 3+i - 3=i by omega];simp [bh,mp,hc]
 ·intro i f hf;simp at hf
 ·intro i f hf;simp at hf
theorem jz {P:Program} (w:World) (dT sT ty elem:TypeId) (b o dLen dCap:Nat) (t:ByteArray)
  (hu:P.underlying dT=some (.slice elem)) (hs:(P.info? elem).map (·.size)=some 1) (hn:t.size≤dLen)
  (hc:∀ j,j<t.size→(w.cell? ⟨b,o+j,none⟩).isSome=true) (hf:∀ j,j<t.size→w.frozen? ⟨b,o+j,none⟩=false) :
  (Builtin.copy_ #[dT,sT] ty #[.slice (some ⟨b,o,none⟩) dLen dCap,.string t]).run P w=.ok (goInt t.size) (w.setCells b o (bh t.data.toList)):=by
 have hl:(bh t.data.toList).length=t.size:=by rw [oX,Array.length_toList];rfl
 have hst:=run_storeCells_cells (P:=P) b o (bh t.data.toList) 0 w (by rw [hl];simpa using hc) (by rw [hl];simpa using hf) (fun v hv=>by
  simp only [bh,mp,List.map_map,List.mem_map] at hv;obtain ⟨x,_,rfl⟩:=hv;rfl)
 have hmin:Nat.min t.size dLen=t.size:=Nat.min_eq_left hn;have hcells:List.take t.size (List.map (fun b:UInt8=>Value.int .u8 b.toNat) t.data.toList)=bh t.data.toList:=by
  rw [List.take_of_length_le (by rw [List.length_map,Array.length_toList];exact zD _)];simp [bh,mp]
 cases hq:P.info? elem with
 | none=>simp [hq] at hs
 | some i =>
  simp only [Nat.add_zero] at hst;simp [Builtin.copy_,run_underlying hu,Builtin.lenOf,Builtin.firstCells,sizeOf,typeInfo,hq,hmin];rw [hcells,hst];rfl
end Go.Proofs.YtjebigodbnefiaaGreatDoor
namespace Go.Proofs
open Go.Shelf
def Tryz.bld166_ren:Go.Shelf.Ren:=⟨fun | 166=>40 | 240=>80 | 276=>89 | n=>n,fun | 0=>0 | 3=>3 | 4=>4 | 5=>5 | 9=>9 | 20=>20 | 37=>22 | 70=>85 | 72=>87 | 75=>91 | 80=>94 | 164=>112 | n=>n,fun | n=>n⟩
theorem Tryz.bld166:Go.Proofs.Lays.n166 prog Tryz.bld166_ren:={
 mixed:=by kernel_rfl
 f166:=func40.trans (congrArg some (by kernel_rfl))
 f240:=func80.trans (congrArg some (by kernel_rfl))
 f276:=func89.trans (congrArg some (by kernel_rfl))
 t0:=underlying0
 a0:=Tryz.isAgg0
 z0:=Tryz.sizeOf0
 v0:=Tryz.zeroValue0
 t3:=underlying3
 a3:=Tryz.isAgg3
 z3:=Tryz.sizeOf3
 v3:=Tryz.zeroValue3
 t4:=underlying4
 a4:=Tryz.isAgg4
 z4:=Tryz.sizeOf4
 v4:=Tryz.zeroValue4
 t9:=underlying9
 a9:=Tryz.isAgg9
 z9:=Tryz.sizeOf9
 v9:=Tryz.zeroValue9
 t20:=underlying20
 a20:=Tryz.isAgg20
 z20:=Tryz.sizeOf20
 v20:=Tryz.zeroValue20
 t37:=underlying22
 a37:=Tryz.isAgg22
 z37:=Tryz.sizeOf22
 v37:=Tryz.zeroValue22
 t70:=underlying85
 a70:=Tryz.isAgg85
 z70:=Tryz.sizeOf85
 v70:=Tryz.zeroValue85
 t72:=underlying87
 a72:=Tryz.isAgg87
 z72:=Tryz.sizeOf87
 v72:=Tryz.zeroValue87
 t75:=underlying91
 a75:=Tryz.isAgg91
 z75:=Tryz.sizeOf91
 v75:=Tryz.zeroValue91
 t164:=underlying112
 a164:=Tryz.isAgg112
 z164:=Tryz.sizeOf112
 v164:=Tryz.zeroValue112 }
theorem Tryz.bldX166:Builder.Extra prog Tryz.bld166_ren:={
 sizeBuilder:=by kernel_rfl
 liesBuilder:=by kernel_rfl
 t5:=underlying5
 a5:=Tryz.isAgg5
 z5:=Tryz.sizeOf5
 v5:=Tryz.zeroValue5
 infoByte:=by kernel_rfl
 cellsByte:=by kernel_rfl
 sizeByte:=by kernel_rfl
 neB5:=by decide }
def Tryz.bld169_ren:Go.Shelf.Ren:=⟨fun | 169=>42 | n=>n,fun | 0=>0 | 3=>3 | 5=>5 | 9=>9 | 37=>22 | 70=>85 | 72=>87 | 127=>108 | n=>n,fun | n=>n⟩
theorem Tryz.bld169:Go.Proofs.Lays.n169 prog Tryz.bld169_ren:={
 mixed:=by kernel_rfl
 f169:=func42.trans (congrArg some (by kernel_rfl))
 t0:=underlying0
 a0:=Tryz.isAgg0
 z0:=Tryz.sizeOf0
 v0:=Tryz.zeroValue0
 t3:=underlying3
 a3:=Tryz.isAgg3
 z3:=Tryz.sizeOf3
 v3:=Tryz.zeroValue3
 t9:=underlying9
 a9:=Tryz.isAgg9
 z9:=Tryz.sizeOf9
 v9:=Tryz.zeroValue9
 t37:=underlying22
 a37:=Tryz.isAgg22
 z37:=Tryz.sizeOf22
 v37:=Tryz.zeroValue22
 t70:=underlying85
 a70:=Tryz.isAgg85
 z70:=Tryz.sizeOf85
 v70:=Tryz.zeroValue85
 t72:=underlying87
 a72:=Tryz.isAgg87
 z72:=Tryz.sizeOf87
 v72:=Tryz.zeroValue87
 t127:=underlying108
 a127:=Tryz.isAgg108
 z127:=Tryz.sizeOf108
 v127:=Tryz.zeroValue108 }
theorem Tryz.bldX169:Builder.Extra prog Tryz.bld169_ren:={
 sizeBuilder:=by kernel_rfl
 liesBuilder:=by kernel_rfl
 t5:=underlying5
 a5:=Tryz.isAgg5
 z5:=Tryz.sizeOf5
 v5:=Tryz.zeroValue5
 infoByte:=by kernel_rfl
 cellsByte:=by kernel_rfl
 sizeByte:=by kernel_rfl
 neB5:=by decide }
end Go.Proofs
