/- WkU HrF HrL HrA HrC SpecOpt MtB -/
import Derived.Test.YtjdgiimfpkideaaGreatDoorS19
import Derived.Test.YtjdgiimfpkideaaGreatDoorS23
import Derived.Test.YtjdgiimfpkideaaGreatDoorS24
import Derived.Test.YtjdgiimfpkideaaGreatDoorS25
set_option maxHeartbeats 8000000
set_option maxRecDepth 100000
set_option linter.unusedSimpArgs false
namespace Go.Proofs.YtjdgiimfpkideaaGreatDoor
open Go.RowKit Go.Proofs.Tryz
variable {c:Cx} {i n B:Nat} {t:ByteArray} {L:List Op.Opt} {s:St} {w0 w1 q W:World} {v1 v2 vs vt:Value} {X Y Z:List Value} {T:TypeId}
def js:List ByteArray:=[mO,mP,mQ,bP,bQ,bL,pT,p5,p6,p7,dz]
def qm(i:Nat):List ByteArray:=if i=6 then pY::js else if i=7 then pZ::js else js
theorem Dt:((List.range 16).all fun i=>(List.range 10).all fun k=>(cU (dE i k)).all fun a=>(qm i).any fun b=>a.data.toList==b.data.toList)=true:=by kernel_rfl
theorem Am{a:ByteArray}(h:a∈js):qf c a:=by
 simp only[js,List.mem_cons,List.not_mem_nil,or_false]at h;unfold qf;rcases h with h|h|h|h|h|h|h|h|h|h|h<;>simp[h]
theorem aO(ht:kF[i]?=some t){st:Int}(h0:0<=st)(h9:st<=9)(h6:i=6->c.ac=2)(h7:i=7->c.ac≠2):(∀a∈(bO st t).2.1,qf c a)/\(bO st t).2.1.length<=30:=by
 have hi:i<16:=(List.getElem?_eq_some_iff.1 ht).1;obtain⟨k,rfl⟩:∃k:Nat,st=(k:Int):=⟨st.toNat,by omega⟩;have hk:k<10:=by omega
 obtain⟨e,⟨_,hl⟩,_⟩:=iO ht hk;rw[e];split
 .exact ⟨fun a ha=>by simp at ha,by simp⟩
 .refine ⟨fun a ha=>?_,hl⟩;have h:=List.all_eq_true.1 (List.all_eq_true.1 (List.all_eq_true.1 Dt i (List.mem_range.2 hi)) k (List.mem_range.2 hk)) a ha;obtain⟨b,hb,e⟩:=List.any_eq_true.1 h;have e2:a=b:=by
   obtain⟨⟨l⟩⟩:=a;obtain⟨⟨m⟩⟩:=b;have:l=m:=by simpa using e
   rw[this]
  subst e2;unfold qm at hb;split at hb
  .rename_i h'
   rcases List.mem_cons.1 hb with hb|hb
   .exact Or.inr (Or.inr (Or.inr (Or.inr (Or.inr (Or.inr (Or.inr (Or.inr (Or.inr (Or.inr (Or.inr (Or.inl ⟨hb,h6 h'⟩)))))))))))
   .exact Am hb
  .split at hb
   .rename_i h'
    rcases List.mem_cons.1 hb with hb|hb
    .exact Or.inr (Or.inr (Or.inr (Or.inr (Or.inr (Or.inr (Or.inr (Or.inr (Or.inr (Or.inr (Or.inr (Or.inr ⟨hb,h7 h'⟩)))))))))))
    .exact Am hb
   .exact Am hb
theorem bK(c:Cx)(a:ByteArray)(h:qf c a):nM 99 72 c a:=by
 intro w0 w1 B s v1 v2 vs vt q n hL hf hn;rcases h with rfl|rfl|rfl|rfl|rfl|rfl|rfl|rfl|rfl|rfl|rfl|⟨rfl,_⟩|⟨rfl,_⟩
 .exact wY hL
 .exact xe hL hf hn
 .exact wZ hL hf hn
 .exact w_ hL hf hn
 .exact FM hL hf hn
 .exact FN hL hf hn
 .exact yM hL
 .exact yN hL hf hn
 .exact yP hL hf hn
 .exact yS hL hf hn
 .exact yO hL hf hn
 .exact yR hL hf hn
 .exact yQ hL hf hn
def dI(e:En)(L:List Op.Opt):Int × List Op.Opt :=
 if(ck e.m1 e.a1 e.g2 e.p1 e.c1 e.d1 L).1=3/\e.fl=3 then(4,gX L (ck e.m1 e.a1 e.g2 e.p1 e.c1 e.d1 L).2)else ck e.m1 e.a1 e.g2 e.p1 e.c1 e.d1 L
def aU(now:Int)(p:Op.Pk)(H:List Op.Opt)(A:Int × List Op.Opt)(vh va:Value):Cx:=⟨now,p.code,p.id,p.data,H,A.1,A.2,vh,va⟩
def gr(e:En):Cf:=⟨e.m2.toNat,e.a2.toNat,e.g2.toNat,e.p2,e.c2,e.d2⟩
def ee(e:En)(x:Cf):En:={e with m2:=x.m,a2:=x.a,g2:=x.g,p2:=x.p,c2:=x.c,d2:=x.d}
def im(i:Nat):ByteArray:=kF.getD i ⟨#[]⟩
abbrev ai:Value:=.slice none 0 0
def f_(t:ByteArray):Bool:=match t.data.toList with
 | []=>false
 | b::_=>decide (1<=b.toNat/\b.toNat<=7)
def aB(now:Int)(p:Op.Pk)(e:En)(F1 F2:List Op.Opt):EO :=
 if p.code=1 then
  if(ar p.data).2=0 then bj (aU now p (ar p.data).1 (dI e (ar p.data).1) ai ai) ⟨e,F1,F2,[],[]⟩ (im (if(dI e (ar p.data).1).1=2 then 6 else 7))else bA (ar p.data).2
 else if p.code=2 then
  if p.id=e.id/\p.data=co (Op.bytes F1)then bj (aU now p [] (0,[]) ai ai) ⟨e,F1,F2,[],[]⟩ (im 8)else bA 8
 else if p.code=3\/p.code=4 then
  if p.id=e.id then
   if(ar p.data).2=0 then bj (aU now p [] (0,[]) ai ai) ⟨ee e (if p.code=3 then bF (gr e) (ar p.data).1 else gI (gr e) (ar p.data).1),F1,F2,[],[]⟩ (im 9)else bA (ar p.data).2
  else bA 8
 else if p.code=7/\p.data.size=0 then bA 4
 else bj (aU now p [] (0,[]) ai ai) ⟨e,F1,F2,[],[]⟩ (im (if p.code=5 then 10 else if p.code=6 then 11 else if p.code=7 then(if f_ p.data=true then 14 else 13)else if p.code=9\/p.code=10\/p.code=11 then 15 else 12))
def bn(e:En)(F1 F2:List Op.Opt)(p:Op.Pk)(now:Int):EO :=
 if(dJ e F1 F2&&bh 0 1000000000 now)=true/\Op.pok p=true then(if e.st<=1 then bA 8 else aB now p e F1 F2)else bA 1
theorem eS(ht:t.size<=250):cC (ar t).1=true:=by
 have h8:¬8000<t.size:=by omega
 unfold cC;rw[dd,Bool.true_and];cases ha:Op.acc [] t.data.toList with
 | none=>rw[uv h8 ha];rfl
 | some L =>
  have h1:=Op.bytes_acc ha;have h2:=dd t;rw[uw h8 ha]at h2|-;unfold Op.told at h1;rw[if_pos h2]at h1;refine decide_eq_true ?_;rw[h1];exact ht
theorem sU(m a g:Int)(p c d:Bool)(h:cC L=true):cC (ck m a g p c d L).2=true:=by
 unfold ck;split
 .exact D6 _ _ _ _ _ _ h _
 .rfl
theorem kB(e:En)(h:cC L=true):cC (dI e L).2=true:=by
 unfold dI;split
 .exact D7 h _
 .exact sU _ _ _ _ _ _ h
theorem B4(e:En)(L:List Op.Opt):dI e L=if(ck e.m1 e.a1 e.g2 e.p1 e.c1 e.d1 L).1=3/\e.fl=3 then(4,lE L (ck e.m1 e.a1 e.g2 e.p1 e.c1 e.d1 L).2)else ck e.m1 e.a1 e.g2 e.p1 e.c1 e.d1 L:=by
 unfold dI;split
 .next h =>
  rw[sC];have h3:=h.1;unfold ck at h3|-;split
  .next hc =>
   rw[if_pos hc]at h3;exact uR _ _ _ _ _ _ _ h3 _
  .exact List.Pairwise.nil
 .rfl
theorem Fit.came{now:Int}(h:Fit n (bY now) s)(p:Op.Pk)(hp:Op.pok p=true){H:List Op.Opt}{A:Int × List Op.Opt}(hH:cC H=true)(hA:cC A.2=true)(vh va:Value):Fit n (aU now p H A vh va) s:=by
 unfold Op.pok at hp;have:=of_decide_eq_true hp
 exact⟨h.cf,h.ask,h.id,h.tr,h.fl,h.now,h.f1,h.f2,h.sn,h.tl,hH,hA,this.2.2.2.2,h.du⟩
theorem Fit.asks{e:En}{F1 F2:List Op.Opt}{sn:List Op.Pk}{tl:List ByteArray}(h:Fit n c ⟨e,F1,F2,sn,tl⟩){x:Cf}(hx:sw x=true):Fit n c ⟨ee e x,F1,F2,sn,tl⟩ :=
 ⟨h.cf,hx,h.id,h.tr,h.fl,h.now,h.f1,h.f2,h.sn,h.tl,h.hd,h.ao,h.cd,h.du⟩
theorem gp(h:i<16):kF[i]?=some (im i):=by
 have hl:kF.length=16:=by kernel_rfl
 unfold im;rw[List.getD_eq_getElem?_getD,List.getElem?_eq_getElem (by omega)];rfl
section
variable {T:TypeId} {w0 w1:World} {B:Nat} {c:Cx} {s:St} {v1 v2 vs vt:Value} {q q':World}
theorem Lay.setCx(h:Lay T w0 w1 B c s v1 v2 vs vt q)(i:Nat)(v:Value)(c':Cx)(hc:(lF c s.e v1 v2 vs vt).set i v=lF c' s.e v1 v2 vs vt)(e1:c'.vh=c.vh)(e2:c'.hd=c.hd)(e3:c'.va=c.va)(e4:c'.ao=c.ao):Lay T w0 w1 B c' s v1 v2 vs vt (q.setCell (B,i) v):=by
 have hr:=zH q B i _ _ v h.row;rw[List.setIfInBounds_toArray,hc]at hr;have hk:∀k,k≠B->(q.setCell (B,i) v).heap[k]?=q.heap[k]?:=fun k hk=>heap_setCell_other q _ _ _ hk
 refine⟨hr,bZ h.o1 fun g hg=>hk g fun e=>aq h.o1 h.row h.tt.1 (e▸hg),bZ h.o2 fun g hg=>hk g fun e=>aq h.o2 h.row h.tt.1 (e▸hg),bZ h.os fun g hg=>hk g fun e=>aq h.os h.row h.tt.2.1 (e▸hg),bZ h.ot fun g hg=>hk g fun e=>aq h.ot h.row h.tt.2.2 (e▸hg),?_,?_,h.hB,h.tt,h.ap,?_,h.lo,h.nr.setCell i v⟩
 .rw [e1,e2];exact bZ h.oh fun g hg=>hk g fun e=>aq h.oh h.row h.tt.1 (e▸hg)
 .rw [e3,e4];exact bS h.ha h.row h.tt.1 fun k _=>hk k
 .rw [e1];exact h.aph
theorem Lay.cameP(h:Lay T w0 w1 B c s v1 v2 vs vt q)(x y:Int)(t:ByteArray):Lay T w0 w1 B {c with cc:=x,ci:=y,cd:=t} s v1 v2 vs vt (((q.setCell (B,31) x).setCell (B,32) y).setCell (B,33) t) :=
 ((h.setCx 31 x {c with cc:=x} rfl rfl rfl rfl rfl).setCx 32 y {c with cc:=x,ci:=y} rfl rfl rfl rfl rfl).setCx 33 t {c with cc:=x,ci:=y,cd:=t} rfl rfl rfl rfl rfl
theorem Lay.had9(h:Lay T w0 w1 B c s v1 v2 vs vt q)(hb:Below q q q')(v:Value)(F:List Op.Opt)(ho:q'.ownsRow q 105 2 v F.length (aj F)):Lay T w0 w1 B {c with hd:=F,vh:=v} s v1 v2 vs vt (q'.setCell (B,34) v):=by
 have h':=h.step hb;have hr:=zH q' B 34 _ _ v h'.row;rw[List.setIfInBounds_toArray]at hr;have hk:∀k,k≠B->(q'.setCell (B,34) v).heap[k]?=q'.heap[k]?:=fun k hk=>heap_setCell_other q' _ _ _ hk
 have hs:=h.low.size;refine⟨hr,bZ h'.o1 fun g hg=>hk g fun e=>aq h'.o1 h'.row h.tt.1 (e▸hg),bZ h'.o2 fun g hg=>hk g fun e=>aq h'.o2 h'.row h.tt.1 (e▸hg),bZ h'.os fun g hg=>hk g fun e=>aq h'.os h'.row h.tt.2.1 (e▸hg),bZ h'.ot fun g hg=>hk g fun e=>aq h'.ot h'.row h.tt.2.2 (e▸hg),bZ (aE ho hs) fun g hg=>hk g fun e=>aq ho h'.row h.tt.1 (e▸hg),bS h'.ha h'.row h.tt.1 fun k _=>hk k,h.hB,h.tt,h.ap,fun g hg e=>?_,h.lo,h'.nr.setCell 34 v⟩;have h1:=(ho.lt g e).1;have h2:=(h.o1.lt g hg).2;omega
theorem Lay.ans9(h:Lay T w0 w1 B c s v1 v2 vs vt q)(x:Int)(v:Value)(F:List Op.Opt)(hv:HoldsO q v F):Lay T w0 w1 B {c with ac:=x,ao:=F,va:=v} s v1 v2 vs vt ((q.setCell (B,35) x).setCell (B,36) v):=by
 have h':=h.setCx 35 x {c with ac:=x} rfl rfl rfl rfl rfl;have hv':HoldsO (q.setCell (B,35) x) v F:=bS hv h.row h.tt.1 fun k _ hk=>heap_setCell_other q _ _ _ hk
 generalize q.setCell (B,35) (.int .i64 x)=z at*;have hr:=zH z B 36 _ _ v h'.row;rw[List.setIfInBounds_toArray]at hr;have hk:∀k,k≠B->(z.setCell (B,36) v).heap[k]?=z.heap[k]?:=fun k hk=>heap_setCell_other z _ _ _ hk
 exact⟨hr,bZ h'.o1 fun g hg=>hk g fun e=>aq h'.o1 h'.row h.tt.1 (e▸hg),bZ h'.o2 fun g hg=>hk g fun e=>aq h'.o2 h'.row h.tt.1 (e▸hg),bZ h'.os fun g hg=>hk g fun e=>aq h'.os h'.row h.tt.2.1 (e▸hg),bZ h'.ot fun g hg=>hk g fun e=>aq h'.ot h'.row h.tt.2.2 (e▸hg),bZ h'.oh fun g hg=>hk g fun e=>aq h'.oh h'.row h.tt.1 (e▸hg),bS hv' h'.row h.tt.1 fun k _=>hk k,h.hB,h.tt,h.ap,h.aph,h.lo,h'.nr.setCell 36 v⟩
theorem Lay.asks9(h:Lay T w0 w1 B c s v1 v2 vs vt q)(x:Cf):Lay T w0 w1 B c {s with e:=ee s.e x} v1 v2 vs vt ((((((q.setCell (B,6) x.m).setCell (B,7) x.a).setCell (B,8) x.g).setCell (B,9) x.p).setCell (B,10) x.c).setCell (B,11) x.d) :=
 (((((h.setRaw 6 x.m {s.e with m2:=x.m} rfl).setRaw 7 x.a {s.e with m2:=x.m,a2:=x.a} rfl).setRaw 8 x.g {s.e with m2:=x.m,a2:=x.a,g2:=x.g} rfl).setRaw 9 x.p {s.e with m2:=x.m,a2:=x.a,g2:=x.g,p2:=x.p} rfl).setRaw 10 x.c {s.e with m2:=x.m,a2:=x.a,g2:=x.g,p2:=x.p,c2:=x.c} rfl).setRaw 11 x.d (ee s.e x) rfl
end
theorem fc{u:ByteArray}(h:t.toList=u.toList):t=u:=by
 rw[ByteArray.toList_eq,ByteArray.toList_eq]at h;exact ByteArray.ext (Array.ext' h)
theorem qz(h:Lay 129 w0 w1 B c s v1 v2 vs vt q)(hf:Fit n c s):Calls prog 122 #[(B,0)] q fun r q'=>Lay 129 w0 w1 B c s v1 v2 vs vt q'/\r=.returned (.tuple #[.int .i64 (if c.ci=s.e.id/\c.cd=co (Op.bytes s.F1)then 8 else 0),.int .i64 (if c.ci=s.e.id/\c.cd=co (Op.bytes s.F1)then 0 else 8)]):=by
 have hm:s.F1.length<=maxLen:=by have:=Op.right_len (iP hf.f1);unfold maxLen;omega
 have CB:Hid (∀z,Lay 129 w0 w1 B c s v1 v2 vs vt z->Calls prog 131 #[v1] z fun e w'=>e=.returned (.string (rD s.F1))/\Below z z w'):=aa fun z hz=>cP v1 s.F1 z hm (HoldsO.own hz.o1)
 have HE:Hid (∀z,Lay 129 w0 w1 B c s v1 v2 vs vt z->z.cell? (B,32)=some (.int .i64 c.ci)/\z.cell? (B,15)=some (.int .i64 s.e.id)/\z.cell? (B,33)=some (.string c.cd)/\z.cell? (B,17)=some v1):=aa fun z h3=>zA (h3.cell (i:=32) rfl) (zA (h3.cell (i:=15) rfl) (zA (h3.cell (i:=33) rfl) (h3.cell (i:=17) rfl)))
 have ho:rD s.F1=co (Op.bytes s.F1):=by unfold rD Op.told;rw[if_pos (iP hf.f1)]
 rw[ho]at CB;have HL:=aa h;clear h hm hf ho;generalize co (Op.bytes s.F1)=u at*;generalize c.ci=x at*;generalize s.e.id=y at*;generalize c.cd=t at*;by_cases hi:x=y
 .subst hi;by_cases hu:t=u
  .subst hu;rw[if_pos ⟨rfl,rfl⟩,if_pos ⟨rfl,rfl⟩];go_enter func122,ntmps122
   go_upto_region 1 with fail
   have E1:=aa (HL.out.step (zC _ _).drew);refine wp_region_held_drew (S:=fun y9=>y9.cell? (B,32)=some (.int .i64 x)/\y9.cell? (B,15)=some (.int .i64 x)/\y9.cell? (B,33)=some (.string t)/\y9.cell? (B,17)=some v1) (by kernel_rfl) (uh HE _ E1.out) (fun hHeld=>?_);generalize q.drew=yy at E1 hHeld|-;clear HL;refine tq 0 1 2 3 ?_;refine tq 4 5 6 7 ?_;refine tq 8 9 10 11 ?_;refine tq 12 13 14 15 ?_;refine tq 16 17 18 19 ?_;refine tt 20 21 ?_;refine r3 22 fun K hK=>?_
   go_simp;refine(uh CB _ E1.out).mono ?_;rintro e z3⟨rfl,hb3⟩;have E3:=aa (E1.out.step hb3);clear hb3;go_wp2_with fail
   refine ro hK (uh HE _ E3.out) fun _=>?_
   clear hK K;refine tt 23 24 ?_;refine dn ?_ _;go_wp2
   refine bodyPost_ret (v:=.tuple #[(8:Int),(0:Int)]) (by simp[results,results122,go_sem]) rfl ⟨uh E3,rfl⟩
  .rw [if_neg fun h=>hu h.2,if_neg fun h=>hu h.2];have hu2:(t.toList != u.toList)=true:=by
    rw[bne_iff_ne];intro e;exact hu (fc e)
   have hu3:(t.toList==u.toList)=false:=by
    rw[beq_eq_false_iff_ne];intro e;exact hu (fc e)
   go_enter func122,ntmps122
   go_upto_region 1 with fail
   have E1:=aa (HL.out.step (zC _ _).drew);refine wp_region_held_drew (S:=fun y9=>y9.cell? (B,32)=some (.int .i64 x)/\y9.cell? (B,15)=some (.int .i64 x)/\y9.cell? (B,33)=some (.string t)/\y9.cell? (B,17)=some v1) (by kernel_rfl) (uh HE _ E1.out) (fun hHeld=>?_);generalize q.drew=yy at E1 hHeld|-;clear HL;refine tq 0 1 2 3 ?_;refine tq 4 5 6 7 ?_;refine tq 8 9 10 11 ?_;refine tq 12 13 14 15 ?_;refine tq 16 17 18 19 ?_;refine tt 20 21 ?_;refine r3 22 fun K hK=>?_
   go_simp;refine(uh CB _ E1.out).mono ?_;rintro e z3⟨rfl,hb3⟩;have E3:=aa (E1.out.step hb3);clear hb3;go_wp2_with fail
   refine ro hK (uh HE _ E3.out) fun _=>?_
   clear hK K;refine tt 23 24 ?_;refine dn ?_ _;go_wp2
   refine bodyPost_ret (v:=.tuple #[(0:Int),(8:Int)]) (by simp[results,results122,go_sem]) rfl ⟨uh E3,rfl⟩
 .rw [if_neg fun h=>hi h.1,if_neg fun h=>hi h.1];have hi2:(x != y)=true:=by simpa using hi
  have hi3:(x==y)=false:=by simpa using hi
  go_enter func122,ntmps122
  go_upto_region 1 with fail
  have E1:=aa (HL.out.step (zC _ _).drew);refine wp_region_held_drew (S:=fun y9=>y9.cell? (B,32)=some (.int .i64 x)/\y9.cell? (B,15)=some (.int .i64 y)/\y9.cell? (B,33)=some (.string t)/\y9.cell? (B,17)=some v1) (by kernel_rfl) (uh HE _ E1.out) (fun hHeld=>?_);generalize q.drew=yy at E1 hHeld|-;clear HL;refine tq 0 1 2 3 ?_;refine tq 4 5 6 7 ?_;refine tq 8 9 10 11 ?_;refine t5 12 ?_;refine t5 13 ?_;refine t5 14 ?_;refine t5 15 ?_;refine t5 16 ?_;refine t5 17 ?_;refine t5 18 ?_;refine t5 19 ?_;refine t5 20 ?_;refine t5 21 ?_;refine t5 22 ?_;refine t5 23 ?_;refine t2 24 ?_;refine dn ?_ _;go_wp2
  refine bodyPost_ret (v:=.tuple #[(0:Int),(8:Int)]) (by simp[results,results122,go_sem]) rfl ⟨uh E1,rfl⟩
theorem xF(h:Lay 129 w0 w1 B c s v1 v2 vs vt q)(hs:c.cd.size<=250):Calls prog 124 #[(B,0)] q fun r q'=>q'=q/\r=.returned (.tuple #[.int .i64 (if c.cd.size=0 then 0 else if f_ c.cd=true then 14 else 13),.int .i64 (if c.cd.size=0 then 4 else 0)]):=by
 have k:=h.cell (i:=33) rfl;clear h;obtain⟨t,ht⟩ := ex c.cd;rw[ht]at hs|-;have c33:q.cell? (B,33)=some (.string t):=ht▸k;clear k ht;obtain⟨⟨l⟩⟩:=t;cases l with
 | nil =>
  go_enter func124,ntmps124
  go_wp2
  refine bodyPost_ret (v:=.tuple #[(0:Int),(4:Int)]) (by simp[results,results124,go_sem]) rfl ⟨rfl,rfl⟩
 | cons b l =>
  have d0:(ByteArray.mk ⟨b::l⟩).toList.isEmpty=false:=by rw[ByteArray.toList_eq];rfl
  have d1:¬(ByteArray.mk ⟨b::l⟩).size=0:=by show ¬(l.length+1=0);omega
  have d2:f_ ⟨⟨b::l⟩⟩=bh 1 7 b.toNat:=by
   show decide (1<=b.toNat/\b.toNat<=7)=_
   unfold bh;rw[Bool.eq_iff_iff];simp;omega
  rw[d2,if_neg d1,if_neg d1];clear d2;have wb:wrap64 (b.toNat:Int)=(b.toNat:Int):=by
   have:=b.toNat_lt
   unfold wrap64;omega
  have d3:0<(ByteArray.mk ⟨b::l⟩).size:=by show 0<l.length+1;omega
  cases hb:bh 1 7 (b.toNat:Int)
  .have hb2:bh 1 7 (wrap64 (((ByteArray.mk ⟨b::l⟩)[0]'d3).toNat:Int))=false:=by show bh 1 7 (wrap64 (b.toNat:Int))=false;rw[wb];exact hb
   go_enter func124,ntmps124
   go_wp2_with (first|(go_at_call 45;refine cq (cE _ _ _ _) ?_;rw[hb2]))
   refine bodyPost_ret (v:=.tuple #[(13:Int),(0:Int)]) (by simp[results,results124,go_sem]) rfl ⟨rfl,rfl⟩
  .have hb2:bh 1 7 (wrap64 (((ByteArray.mk ⟨b::l⟩)[0]'d3).toNat:Int))=true:=by show bh 1 7 (wrap64 (b.toNat:Int))=true;rw[wb];exact hb
   go_enter func124,ntmps124
   go_wp2_with (first|(go_at_call 45;refine cq (cE _ _ _ _) ?_;rw[hb2]))
   refine bodyPost_ret (v:=.tuple #[(14:Int),(0:Int)]) (by simp[results,results124,go_sem]) rfl ⟨rfl,rfl⟩
def xJ(w w':World)(res:Option (List Op.Opt))(e:Ending):Prop :=
  (res=none/\e=.returned (.tuple #[(),false])/\Below w w w') \/
    (∃L ad cp,res=some L/\e=.returned (.tuple #[.slice ad L.length cp,.bool (Op.right L)])/\w'.ownsRow w.heap.size 105 2 (.slice ad L.length cp) L.length (aj L)/\Below w.heap.size w w')
def xK:Value->Nat
  | .string t=>t.size
  | _=>0
theorem qN{k n:UInt8}{r:List UInt8}{out:List Op.Opt}(h:¬(n.toNat<2\/r.length+2<n.toNat)):(Op.rd (k::n::r)).map (out ++ ·)=(Op.rd (r.drop (n.toNat-2))).map ((out++[⟨(k.toNat:Int),co (r.take (n.toNat-2))⟩]) ++ ·):=by
  rw[Op.rd_step h];cases Op.rd (r.drop (n.toNat-2))with
  | none=>rfl
  | some L=>simp
theorem qO(t:ByteArray)(w:World)(h8:t.size<=8000):Calls prog 108 #[t] w fun e w'=>xJ w w' (Op.rd t.data.toList) e:=by
  obtain⟨i0,hi0,hz0,hz1,hz2⟩:=kW;obtain⟨RES,hRES⟩:∃R,Op.rd t.data.toList=R:=⟨_,rfl⟩;rw[hRES];have HRES:=aa hRES;clear hRES;go_enter func108,ntmps108
  go_wp2_with fail
  go_loopw [0,4] (fun x y wr=>∃(u:ByteArray)(out:List Op.Opt),x=.string u/\u.size<=8000/\out.length*2+u.size<=8000/\(∃a c,y=.slice a out.length c)/\wr.ownsRow w 105 2 y out.length (aj out)/\(Op.rd u.data.toList).map (out ++ ·)=RES/\Below w w wr) (fun x _ _=>xK x)
  case atStart =>
    refine⟨t,[],rfl,h8,by simpa using h8,⟨_,_,rfl⟩,World.ownsRow_lit w #[] 0 (by omega) (Nat.zero_le _) rfl,?_,(zC _ _).alloc (zD _) _⟩;rw[<- uh HRES];cases Op.rd t.data.toList with
    | none=>rfl
    | some L=>rfl
  case round =>
    obtain⟨u,out,rfl,hu8,hsum,⟨ya,yc,rfl⟩,hown,hacc,hb⟩:=hrel;have hbs:=hb.size;have HOW:=aa hown;clear hown HRES;by_cases h0:u.size=0
    . have hnil:u.data.toList=[]:=List.eq_nil_of_length_eq_zero (by rw[bC];exact h0)
      rw[hnil,Op.rd_nil]at hacc;have hacc':RES=some out:=by rw[<- hacc];simp
      have d1:¬((0:Int)<(u.size:Int)):=by omega
      have C:=aa (nA _ out wr (by unfold maxLen;omega) (HoldsO.own HOW.out));clear hacc hnil;go_wp2_with (first|(go_at_call 125;refine C.out.mono ?_;rintro e w4⟨rfl,hb4⟩))
      go_ret2
      exact Or.inr ⟨out,_,_,hacc',rfl,aY HOW.out fun p _ hp=>hb4.block p hp,hb.trans (hb4.mono hbs)⟩
    . have d1:(0:Int)<(u.size:Int):=by omega
      by_cases h1:u.size<2
      . have d2:decide ((u.size:Int)<2)=true:=decide_eq_true (by omega)
        have hres:RES=none:=by
          obtain⟨c,hc⟩:∃c,u.data.toList=[c]:=by
            have hl:=bC u;rcases hq:u.data.toList with _|⟨c,_|⟨d,r⟩⟩
            . rw[hq]at hl;simp at hl;omega
            . exact⟨c,rfl⟩
            . rw[hq]at hl;simp at hl;omega
          rw[hc,Op.rd_one]at hacc;rw[<- hacc];rfl
        clear hacc;go_wp2
        go_ret2
        exact Or.inl ⟨hres,rfl,hb⟩
      . have d2:decide ((u.size:Int)<2)=false:=decide_eq_false (by omega)
        have d2':(1:Int)<(u.size:Int):=by omega
        have htwo:=Go.Proofs.YtjdgiimfpkideaaGreatDoor.u6 (t:=u) (by omega);have hrl:(u.data.toList.drop 2).length=u.size-2:=by rw[List.length_drop,bC]
        have HX:=aa fun m n=>Co u m n
        have HE:=aa fun n=>D2 u n
        obtain⟨k,hk⟩:∃c,u[0]=c:=⟨_,rfl⟩;obtain⟨n,hn⟩:∃c,u[1]=c:=⟨_,rfl⟩;rw[hk,hn]at htwo;have hdd:∀m,2<=m->u.data.toList.drop m=(u.data.toList.drop 2).drop (m-2):=fun m hm=>by rw[List.drop_drop];congr 1;omega
        have HDD:=aa hdd;rw[htwo]at hacc;generalize hr:u.data.toList.drop 2=r at*;have wu:=yZ;have wi:=xI;by_cases c1:n.toNat<2
        . have e1:decide ((n.toNat:Int)<2)=true:=decide_eq_true (by omega)
          have hres:RES=none:=by rw[<- hacc,Op.rd_bad (Or.inl c1)];rfl
          clear hacc htwo HDD hdd HX HE hr;go_wp2
          go_ret2
          exact Or.inl ⟨hres,rfl,hb⟩
        . have e1:decide ((n.toNat:Int)<2)=false:=decide_eq_false (by omega)
          have hnlt:=n.toNat_lt;by_cases c2:r.length+2<n.toNat
          . have e2:(u.size:Int)<(n.toNat:Int):=by omega
            have hres:RES=none:=by rw[<- hacc,Op.rd_bad (Or.inr c2)];rfl
            clear hacc htwo HDD hdd HX HE hr;go_wp2
            go_ret2
            exact Or.inl ⟨hres,rfl,hb⟩
          . have e2:¬((u.size:Int)<(n.toNat:Int)):=by omega
            have e3:(2:Int)<=(n.toNat:Int):=by omega
            have e4:(n.toNat:Int)<=(u.size:Int):=by omega
            rw[qN (by omega)]at hacc;have HAC:=aa hacc;have hx:=uh HX 2 n.toNat;have he:=uh HE n.toNat;rw[uh HDD n.toNat (by omega)]at he;rw[hr]at hx;have HL2:Hid ((r.drop (n.toNat-2)).length+n.toNat=u.size):=aa (by rw[List.length_drop];omega);clear hacc htwo HDD hdd HX HE hr;have i0':(0:Int)<(u.size:Int):=by omega
            generalize co (r.take (n.toNat-2))=T at*;obtain⟨L2,hL2⟩:∃L,r.drop (n.toNat-2)=L:=⟨_,rfl⟩;rw[hL2]at HAC HL2 he;have lw:w.heap.size<=wr.heap.size:=hbs;have hol1:out.length<=4000:=by omega
            clear hL2;go_wp2_with fail
            go_region_held3 (fun _=>True) (trivial)
              ((refine step_append_lies _ (by rfl) _ _ _ (by rfl) w 105 i0 _ 2 24 underlying28 hi0 hz0 hz1 hz2 rfl (by omega) (ya,out.length,yc) out.length (aj out) (by rfl) ((HOW.out.alloc _).drew)
                  ⟨wr.heap.size,0,none⟩ 1 1 [.int .i64 k.toNat,.string T] (by rfl) (by rfl) (World.news_of_block (cs:=#[.int .i64 k.toNat,.string T]) (t:=105) (fr:=(0,0)) (zF wr _)) (by simp[Value.oneCell'])
                  (by omega) (by unfold maxLen;omega) (by omega) (by simp;omega) (wr.heap.size+1) (by simp) ?_;intro gg cap3 w3 hown3 hgrow hat hlt))
            all_goals
              have hbw3:Below w w w3:=((hb.alloc lw _).drew).grown hgrow (by simp;omega) (fun p hp=>(World.ownsRow.lt HOW.out p hp).1);have hoc:aj out++[.int .i64 k.toNat,.string T]=aj (out++[⟨(k.toNat:Int),T⟩]):=by rw[bV];rfl
              rw[hoc]at hown3;have HO3:=aa hown3;clear hown3 hgrow hat hoc HOW;go_wp2
              go_roundw
              case rel =>
                refine⟨co L2,out++[⟨(k.toNat:Int),T⟩],rfl,?_,?_,⟨some (gg,0),cap3,by simp⟩,by simpa using uh HO3,by rw[kN];exact uh HAC,hbw3⟩
                . have:=uh HL2
                  rw[eJ];omega
                . have:=uh HL2
                  rw[eJ];simp;omega
              case measure =>
                have:=uh HL2
                simp[xK,eJ];omega
theorem ii(h:W.heap[B]?=some (.cells (X++Y++Z).toArray T)):W.there B X.length Y.length:=fun j hj=>by
 have:=aS h j Y[j] (List.getElem?_eq_getElem hj)
 rw[this];exact⟨rfl,aX h _⟩
theorem td(row:W.heap[B]?=some (.cells (X++Y++Z).toArray T))(hY:Y.length=30)(cs:List Value)(cd:Int)(hs:cs.length=33)(h1:cs.toArray.all (·.oneCell')=true)(hc:cs[32]?=some (cd:V)):Calls prog 80 #[(B,X.length),.agg cs.toArray] W fun e W'=>e=.returned (.tuple #[])/\∃W1,Below W W W1/\W'=if cd=0 then W1.setCells B X.length (cs.take 30)else W1:=by
 have hb:Below W W (W.alloc (.cells cs.toArray 74)):=(zC _ _).alloc (zD _) _;have hA:=zF W (.cells cs.toArray 74);have hc1:(W.alloc (.cells cs.toArray 74)).cell? (W,32)=some (.int .i64 cd):=by rw[cr hA,List.getElem?_toArray];exact hc
 have rB:(W.alloc (.cells cs.toArray 74)).heap[B]?=some (.cells (X++Y++Z).toArray T):=(hb.block B (ge.1 row).1).trans row;have h2:cs=cs.take 30++cs.drop 30:=(List.take_append_drop 30 cs).symm;have rA:(W.alloc (.cells cs.toArray 74)).rangeAt W 0 (cs.take 30):=by
  have hA':=hA;rw[h2,<- List.nil_append (cs.take 30)]at hA';have:=aS hA'
  rw[h2];simpa using this
 have h3:(cs.take 30).toArray.all (·.oneCell')=true:=all_oneCell_toArray fun v hv=>Array.all_eq_true_iff_forall_mem.1 h1 v (by simpa using List.mem_of_mem_take hv)
 have h4:(cs.take 30).length=30:=by rw[List.length_take];omega
 have tB:=ii rB;rw[hY]at tB;have HA:=aa (zA hb (zA rB (zA rA tB)));clear hb hA rA tB rB row h2;generalize hk:X.length=k at*;by_cases h0:cd=0
 .subst h0;simp only[if_true];go_enter func80,ntmps80
  go_wp2_with (first
   | (refine Great.wpList_allocTo rfl (some 3) rfl (W,0) (.cells cs.toArray 74) (by simp[go_sem]) ?_)
   | (refine wpList_load_mid rfl 32 (.tmp 8) rfl W 0 rfl (cs.take 30) _ HA.out.2.2.1 underlying32 rfl (by rw[h4];exact aL) ?_)
   | (refine wpList_store_mid rfl 32 (.tmp 10) (.tmp 9) rfl B k (cs.take 30).toArray rfl rfl (by rw[List.size_toArray,h4];exact HA.out.2.2.2) (by rw[List.size_toArray,h4];exact aL) h3 ?_))
  refine zI ?_;exact⟨rfl,_,HA.out.1,rfl⟩
 .simp only[if_neg h0];go_enter func80,ntmps80
  go_wp2_with (first
   | (refine Great.wpList_allocTo rfl (some 3) rfl (W,0) (.cells cs.toArray 74) (by simp[go_sem]) ?_))
  refine zI ?_;exact⟨rfl,_,HA.out.1,rfl⟩
end Go.Proofs.YtjdgiimfpkideaaGreatDoor
