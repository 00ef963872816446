/- WkU HrF HrL HrP HrQ -/
import Derived.Test.YtjdgiimfpkideaaGreatDoorS23
import Derived.Test.YtjdgiimfpkideaaGreatDoorS30
import Derived.Test.YtjdgiimfpkideaaGreatDoorS29
set_option maxHeartbeats 8000000
set_option maxRecDepth 100000
set_option linter.unusedSimpArgs false
namespace Go.Proofs.YtjdgiimfpkideaaGreatDoor
open Go.RowKit Go.Proofs.Tryz
def js:List ByteArray:=[mO,mP,mQ,bP,bQ,bL,pT,p5,p6,p7,dz]
def qm (i:Nat):List ByteArray:=if i=6 then pY :: js else if i=7 then pZ :: js else js
theorem qn:((List.range 16).all fun i=>(List.range 10).all fun k=>(cU (dE i k)).all fun a=>(qm i).any fun b=>a.data.toList == b.data.toList)=true:=by kernel_rfl
theorem ia {c:Cx} {a:ByteArray} (h:a ∈ js):qf c a:=by
 simp only [js,List.mem_cons,List.not_mem_nil,or_false] at h;unfold qf;rcases h with h | h | h | h | h | h | h | h | h | h | h<;>simp [h]
theorem aO {i:Nat} {t:ByteArray} (ht:ba[i]?=some t) {st:Int} (h0:0≤st) (h9:st≤9) {c:Cx} (h6:i=6→c.ac=2) (h7:i=7→c.ac≠2):(∀ a ∈ (bO st t).2.1,qf c a)∧(bO st t).2.1.length≤30:=by
 have hi:i<16:=(List.getElem?_eq_some_iff.1 ht).1;obtain ⟨k,rfl⟩:∃ k:Nat,st=(k:Int):=⟨st.toNat,by omega⟩;have hk:k<10:=by omega
 obtain ⟨e,⟨_,hl⟩,_⟩:=iO ht hk;rw [e];split
 ·exact ⟨fun a ha=>by simp at ha,by simp⟩
 ·refine ⟨fun a ha=>?_,hl⟩;have h:=List.all_eq_true.1 (List.all_eq_true.1 (List.all_eq_true.1 qn i (List.mem_range.2 hi)) k (List.mem_range.2 hk)) a ha;obtain ⟨b,hb,e⟩:=List.any_eq_true.1 h;have e2:a=b:=by
   obtain ⟨⟨l⟩⟩:=a;obtain ⟨⟨m⟩⟩:=b;have:l=m:=by simpa using e
   rw [this]
  subst e2;unfold qm at hb;split at hb
  ·rename_i h'
   rcases List.mem_cons.1 hb with hb | hb
   ·exact Or.inr (Or.inr (Or.inr (Or.inr (Or.inr (Or.inr (Or.inr (Or.inr (Or.inr (Or.inr (Or.inr (Or.inl ⟨hb,h6 h'⟩)))))))))))
   ·exact ia hb
  ·split at hb
   ·rename_i h'
    rcases List.mem_cons.1 hb with hb | hb
    ·exact Or.inr (Or.inr (Or.inr (Or.inr (Or.inr (Or.inr (Or.inr (Or.inr (Or.inr (Or.inr (Or.inr (Or.inr ⟨hb,h7 h'⟩)))))))))))
    ·exact ia hb
   ·exact ia hb
theorem bK (c:Cx) (a:ByteArray) (h:qf c a):nM 99 72 c a:=by
 intro w0 w1 B s v1 v2 vs vt q n hL hf hn;rcases h with rfl | rfl | rfl | rfl | rfl | rfl | rfl | rfl | rfl | rfl | rfl | ⟨rfl,_⟩ | ⟨rfl,_⟩
 ·exact wY hL
 ·exact xe hL hf hn
 ·exact wZ hL hf hn
 ·exact w_ hL hf hn
 ·exact xb hL hf hn
 ·exact xd hL hf hn
 ·exact yM hL
 ·exact yN hL hf hn
 ·exact yP hL hf hn
 ·exact yS hL hf hn
 ·exact yO hL hf hn
 ·exact yR hL hf hn
 ·exact yQ hL hf hn
def dI (e:En) (L:List Op.Opt):Int × List Op.Opt :=
 if (ck e.m1 e.a1 e.g2 e.p1 e.c1 e.d1 L).1=3∧e.fl=3 then (4,gX L (ck e.m1 e.a1 e.g2 e.p1 e.c1 e.d1 L).2) else ck e.m1 e.a1 e.g2 e.p1 e.c1 e.d1 L
def aU (now:Int) (p:Op.Pk) (H:List Op.Opt) (A:Int × List Op.Opt) (vh va:Value):Cx:=⟨now,p.code,p.id,p.data,H,A.1,A.2,vh,va⟩
def gr (e:En):Cf:=⟨e.m2.toNat,e.a2.toNat,e.g2.toNat,e.p2,e.c2,e.d2⟩
def ee (e:En) (x:Cf):En:={ e with m2:=x.m,a2:=x.a,g2:=x.g,p2:=x.p,c2:=x.c,d2:=x.d }
def im (i:Nat):ByteArray:=ba.getD i ⟨#[]⟩
abbrev ai:Value:=.slice none 0 0
def f_ (t:ByteArray):Bool:=match t.data.toList with
 | []=>false
 | b :: _=>decide (1≤b.toNat∧b.toNat≤7)
def aB (now:Int) (p:Op.Pk) (e:En) (F1 F2:List Op.Opt):EO :=
 if p.code=1 then
  if (ar p.data).2=0 then bj (aU now p (ar p.data).1 (dI e (ar p.data).1) ai ai) ⟨e,F1,F2,[],[]⟩ (im (if (dI e (ar p.data).1).1=2 then 6 else 7)) else bA (ar p.data).2
 else if p.code=2 then
  if p.id=e.id∧p.data=co (Op.bytes F1) then bj (aU now p [] (0,[]) ai ai) ⟨e,F1,F2,[],[]⟩ (im 8) else bA 8
 else if p.code=3∨p.code=4 then
  if p.id=e.id then
   if (ar p.data).2=0 then bj (aU now p [] (0,[]) ai ai) ⟨ee e (if p.code=3 then bF (gr e) (ar p.data).1 else gI (gr e) (ar p.data).1),F1,F2,[],[]⟩ (im 9) else bA (ar p.data).2
  else bA 8
 else if p.code=7∧p.data.size=0 then bA 4
 else bj (aU now p [] (0,[]) ai ai) ⟨e,F1,F2,[],[]⟩ (im (if p.code=5 then 10 else if p.code=6 then 11 else if p.code=7 then (if f_ p.data=true then 14 else 13) else if p.code=9∨p.code=10∨p.code=11 then 15 else 12))
def bn (e:En) (F1 F2:List Op.Opt) (p:Op.Pk) (now:Int):EO :=
 if (dJ e F1 F2 && al 0 1000000000 now)=true∧Op.pok p=true then (if e.st≤1 then bA 8 else aB now p e F1 F2) else bA 1
theorem eS {t:ByteArray} (ht:t.size≤250):cC (ar t).1=true:=by
 have h8:¬ 8000<t.size:=by omega
 unfold cC;rw [dd,Bool.true_and];cases ha:Op.acc [] t.data.toList with
 | none=>rw [ed h8 ha];rfl
 | some L =>
  have h1:=Op.bytes_acc ha;have h2:=dd t;rw [fb h8 ha] at h2 ⊢;unfold Op.told at h1;rw [if_pos h2] at h1;refine decide_eq_true ?_;rw [h1];exact ht
theorem sU (m a g:Int) (p c d:Bool) {L:List Op.Opt} (h:cC L=true):cC (ck m a g p c d L).2=true:=by
 unfold ck;split
 ·exact sx _ _ _ _ _ _ h _
 ·rfl
theorem kB (e:En) {L:List Op.Opt} (h:cC L=true):cC (dI e L).2=true:=by
 unfold dI;split
 ·exact sy h _
 ·exact sU _ _ _ _ _ _ h
theorem m9 (e:En) (L:List Op.Opt):dI e L=if (ck e.m1 e.a1 e.g2 e.p1 e.c1 e.d1 L).1=3∧e.fl=3 then (4,lE L (ck e.m1 e.a1 e.g2 e.p1 e.c1 e.d1 L).2) else ck e.m1 e.a1 e.g2 e.p1 e.c1 e.d1 L:=by
 unfold dI;split
 ·next h =>
  rw [sC];have h3:=h.1;unfold ck at h3 ⊢;split
  ·next hc =>
   rw [if_pos hc] at h3;exact uR _ _ _ _ _ _ _ h3 _
  ·exact List.Pairwise.nil
 ·rfl
theorem Fit.came {n:Nat} {now:Int} {s:St} (h:Fit n (bY now) s) (p:Op.Pk) (hp:Op.pok p=true) {H:List Op.Opt} {A:Int × List Op.Opt} (hH:cC H=true) (hA:cC A.2=true) (vh va:Value):Fit n (aU now p H A vh va) s:=by
 unfold Op.pok at hp;have:=of_decide_eq_true hp
 exact ⟨h.cf,h.ask,h.id,h.tr,h.fl,h.now,h.f1,h.f2,h.sn,h.tl,hH,hA,this.2.2.2.2,h.du⟩
theorem Fit.asks {n:Nat} {c:Cx} {e:En} {F1 F2:List Op.Opt} {sn:List Op.Pk} {tl:List ByteArray} (h:Fit n c ⟨e,F1,F2,sn,tl⟩) {x:Cf} (hx:iv x=true):Fit n c ⟨ee e x,F1,F2,sn,tl⟩ :=
 ⟨h.cf,hx,h.id,h.tr,h.fl,h.now,h.f1,h.f2,h.sn,h.tl,h.hd,h.ao,h.cd,h.du⟩
theorem gp {i:Nat} (h:i<16):ba[i]?=some (im i):=by
 have hl:ba.length=16:=by kernel_rfl
 unfold im;rw [List.getD_eq_getElem?_getD,List.getElem?_eq_getElem (by omega)];rfl
end Go.Proofs.YtjdgiimfpkideaaGreatDoor
namespace Go.Proofs.YtjdgiimfpkideaaGreatDoor
open Go.RowKit Go.Proofs.Tryz
variable {T:TypeId} {w0 w1:World} {B:Nat} {c:Cx} {s:St} {v1 v2 vs vt:Value} {q q':World}
theorem Lay.setCx (h:Lay T w0 w1 B c s v1 v2 vs vt q) (i:Nat) (v:Value) (c':Cx) (hc:(lF c s.e v1 v2 vs vt).set i v=lF c' s.e v1 v2 vs vt) (e1:c'.vh=c.vh) (e2:c'.hd=c.hd) (e3:c'.va=c.va) (e4:c'.ao=c.ao):Lay T w0 w1 B c' s v1 v2 vs vt (q.setCell ⟨B,i,none⟩ v):=by
 have hr:=zH q B i _ _ v h.row;rw [List.setIfInBounds_toArray,hc] at hr;have hk:∀ k,k≠B→(q.setCell ⟨B,i,none⟩ v).heap[k]?=q.heap[k]?:=fun k hk=>heap_setCell_other q _ _ _ hk
 refine ⟨hr,ak h.o1 fun g hg=>hk g fun e=>aq h.o1 h.row h.tt.1 (e ▸ hg),ak h.o2 fun g hg=>hk g fun e=>aq h.o2 h.row h.tt.1 (e ▸ hg),ak h.os fun g hg=>hk g fun e=>aq h.os h.row h.tt.2.1 (e ▸ hg),ak h.ot fun g hg=>hk g fun e=>aq h.ot h.row h.tt.2.2 (e ▸ hg),?_,?_,h.hB,h.tt,h.ap,?_,h.lo,h.nr.setCell i v⟩
 ·rw [e1,e2];exact ak h.oh fun g hg=>hk g fun e=>aq h.oh h.row h.tt.1 (e ▸ hg)
 ·rw [e3,e4];exact bS h.ha h.row h.tt.1 fun k _=>hk k
 ·rw [e1];exact h.aph
theorem Lay.cameP (h:Lay T w0 w1 B c s v1 v2 vs vt q) (x y:Int) (t:ByteArray):Lay T w0 w1 B { c with cc:=x,ci:=y,cd:=t } s v1 v2 vs vt (((q.setCell ⟨B,31,none⟩ (.int .i64 x)).setCell ⟨B,32,none⟩ (.int .i64 y)).setCell ⟨B,33,none⟩ (.string t)) :=
 ((h.setCx 31 (.int .i64 x) { c with cc:=x } rfl rfl rfl rfl rfl).setCx 32 (.int .i64 y) { c with cc:=x,ci:=y } rfl rfl rfl rfl rfl).setCx 33 (.string t) { c with cc:=x,ci:=y,cd:=t } rfl rfl rfl rfl rfl
theorem Lay.had9 (h:Lay T w0 w1 B c s v1 v2 vs vt q) (hb:Below q.heap.size q q') (v:Value) (F:List Op.Opt) (ho:q'.ownsRow q.heap.size 105 2 v F.length (aj F)):Lay T w0 w1 B { c with hd:=F,vh:=v } s v1 v2 vs vt (q'.setCell ⟨B,34,none⟩ v):=by
 have h':=h.step hb;have hr:=zH q' B 34 _ _ v h'.row;rw [List.setIfInBounds_toArray] at hr;have hk:∀ k,k≠B→(q'.setCell ⟨B,34,none⟩ v).heap[k]?=q'.heap[k]?:=fun k hk=>heap_setCell_other q' _ _ _ hk
 have hs:=h.low.size;refine ⟨hr,ak h'.o1 fun g hg=>hk g fun e=>aq h'.o1 h'.row h.tt.1 (e ▸ hg),ak h'.o2 fun g hg=>hk g fun e=>aq h'.o2 h'.row h.tt.1 (e ▸ hg),ak h'.os fun g hg=>hk g fun e=>aq h'.os h'.row h.tt.2.1 (e ▸ hg),ak h'.ot fun g hg=>hk g fun e=>aq h'.ot h'.row h.tt.2.2 (e ▸ hg),ak (aE ho hs) fun g hg=>hk g fun e=>aq ho h'.row h.tt.1 (e ▸ hg),bS h'.ha h'.row h.tt.1 fun k _=>hk k,h.hB,h.tt,h.ap,fun g hg e=>?_,h.lo,h'.nr.setCell 34 v⟩;have h1:=(ho.lt g e).1;have h2:=(h.o1.lt g hg).2;omega
theorem Lay.ans9 (h:Lay T w0 w1 B c s v1 v2 vs vt q) (x:Int) (v:Value) (F:List Op.Opt) (hv:HoldsO q v F):Lay T w0 w1 B { c with ac:=x,ao:=F,va:=v } s v1 v2 vs vt ((q.setCell ⟨B,35,none⟩ (.int .i64 x)).setCell ⟨B,36,none⟩ v):=by
 have h':=h.setCx 35 (.int .i64 x) { c with ac:=x } rfl rfl rfl rfl rfl;have hv':HoldsO (q.setCell ⟨B,35,none⟩ (.int .i64 x)) v F:=bS hv h.row h.tt.1 fun k _ hk=>heap_setCell_other q _ _ _ hk
 generalize q.setCell ⟨B,35,none⟩ (.int .i64 x)=z at *;have hr:=zH z B 36 _ _ v h'.row;rw [List.setIfInBounds_toArray] at hr;have hk:∀ k,k≠B→(z.setCell ⟨B,36,none⟩ v).heap[k]?=z.heap[k]?:=fun k hk=>heap_setCell_other z _ _ _ hk
 exact ⟨hr,ak h'.o1 fun g hg=>hk g fun e=>aq h'.o1 h'.row h.tt.1 (e ▸ hg),ak h'.o2 fun g hg=>hk g fun e=>aq h'.o2 h'.row h.tt.1 (e ▸ hg),ak h'.os fun g hg=>hk g fun e=>aq h'.os h'.row h.tt.2.1 (e ▸ hg),ak h'.ot fun g hg=>hk g fun e=>aq h'.ot h'.row h.tt.2.2 (e ▸ hg),ak h'.oh fun g hg=>hk g fun e=>aq h'.oh h'.row h.tt.1 (e ▸ hg),bS hv' h'.row h.tt.1 fun k _=>hk k,h.hB,h.tt,h.ap,h.aph,h.lo,h'.nr.setCell 36 v⟩
theorem Lay.asks9 (h:Lay T w0 w1 B c s v1 v2 vs vt q) (x:Cf):Lay T w0 w1 B c { s with e:=ee s.e x } v1 v2 vs vt ((((((q.setCell ⟨B,6,none⟩ (.int .i64 x.m)).setCell ⟨B,7,none⟩ (.int .i64 x.a)).setCell ⟨B,8,none⟩ (.int .i64 x.g)).setCell ⟨B,9,none⟩ (.bool x.p)).setCell ⟨B,10,none⟩ (.bool x.c)).setCell ⟨B,11,none⟩ (.bool x.d)) :=
 (((((h.setRaw 6 (.int .i64 x.m) { s.e with m2:=x.m } rfl).setRaw 7 (.int .i64 x.a) { s.e with m2:=x.m,a2:=x.a } rfl).setRaw 8 (.int .i64 x.g) { s.e with m2:=x.m,a2:=x.a,g2:=x.g } rfl).setRaw 9 (.bool x.p) { s.e with m2:=x.m,a2:=x.a,g2:=x.g,p2:=x.p } rfl).setRaw 10 (.bool x.c) { s.e with m2:=x.m,a2:=x.a,g2:=x.g,p2:=x.p,c2:=x.c } rfl).setRaw 11 (.bool x.d) (ee s.e x) rfl
end Go.Proofs.YtjdgiimfpkideaaGreatDoor
namespace Go.Proofs.YtjdgiimfpkideaaGreatDoor
open Go.RowKit Go.Proofs.Tryz
structure Rp (q:World) (N0 C:Nat) (m a g2:Int) (p c9 d:Bool) (z:World):Prop where
 b:Below q.heap.size q z
 r:z.heap[N0]?=some (.cells #[.int .i64 0,.slice none 0 0] 97)
 c:z.heap[C]?=some (.cells #[.int .i64 m,.int .i64 a,.int .i64 g2,.bool p,.bool c9,.bool d] 24)
variable {q z z':World} {N0 C:Nat} {m a g2:Int} {p c9 d:Bool}
theorem Rp.step (h:Rp q N0 C m a g2 p c9 d z) (hb:Below z.heap.size z z'):Rp q N0 C m a g2 p c9 d z' :=
 ⟨h.b.trans (hb.mono h.b.size),(hb.block _ (ge.1 h.r).1).trans h.r,(hb.block _ (ge.1 h.c).1).trans h.c⟩
theorem Rp.lt (h:Rp q N0 C m a g2 p c9 d z):N0<z.heap.size:=(ge.1 h.r).1
theorem Rp.setG {g3:Int} (h:Rp q N0 C m a g2 p c9 d z) (hC:q.heap.size≤C) (hn:N0≠C):Rp q N0 C m a g3 p c9 d (z.setCell ⟨C,2,none⟩ (.int .i64 g3)) :=
 ⟨h.b.setCell (p:=⟨C,2,none⟩) hC _,(Below.heap_setCell _ ⟨C,2,none⟩ _ _ hn).trans h.r,zH _ _ 2 _ _ _ h.c⟩
theorem ey {w:World} {B:Nat} {x0 x1:Value} {T:TypeId} (h:w.heap[B]?=some (.cells #[x0,x1] T)):w.cell? ⟨B,0,none⟩=some x0∧w.cell? ⟨B,1,none⟩=some x1 :=
 ⟨by rw [cr h];rfl,by rw [cr h];rfl⟩
structure RaP (q:World) (N0 C:Nat) (m a g2:Int) (p c9 d:Bool) (M:Nat) (code:Int) (v:Value) (R:List Op.Opt) (z:World):Prop where
 e:Rp q N0 C m a g2 p c9 d z
 m:z.heap[M]?=some (.cells #[.int .i64 code,v] 97)
 o:HoldsO z v R
 n:N0<M
theorem nZ {W:World} {E:Nat} {z0 z1:Value} {T:TypeId} (h:W.heap[E]?=some (.cells #[z0,z1] T)) (x0 x1:Value) :
  ((W.setCell ⟨E,0,none⟩ x0).setCell ⟨E,1,none⟩ x1).heap[E]?=some (.cells #[x0,x1] T):=by
 have h1:=zH _ _ 0 _ _ x0 h;have h2:=zH _ _ 1 _ _ x1 h1;exact h2
theorem eU {W:World} {E k:Nat} (hk:k≠E) (x0 x1:Value):((W.setCell ⟨E,0,none⟩ x0).setCell ⟨E,1,none⟩ x1).heap[k]?=W.heap[k]? :=
 (Below.heap_setCell _ ⟨E,1,none⟩ _ _ hk).trans (Below.heap_setCell _ ⟨E,0,none⟩ _ _ hk)
theorem Rp.put {M:Nat} {code:Int} {v:Value} {R:List Op.Opt} (h:Rp q N0 C m a g2 p c9 d z) (hM:z.heap[M]?=some (.cells #[.int .i64 0,.slice none 0 0] 97)) (hw:q.heap.size≤M) (hn:N0<M) (ho:HoldsO z v R) :
  RaP q N0 C m a g2 p c9 d M code v R ((z.setCell ⟨M,0,none⟩ (.int .i64 code)).setCell ⟨M,1,none⟩ v):=by
 refine ⟨⟨(h.b.setCell (p:=⟨M,0,none⟩) hw _).setCell (p:=⟨M,1,none⟩) hw _,(eU (by omega) _ _).trans h.r,(eU (fun e=>?_) _ _).trans h.c⟩,nZ hM _ _,bS ho hM (by decide) fun k _ hk=>eU hk _ _,hn⟩;have h1:=h.c;rw [e,hM] at h1;injection h1 with h1;injection h1 with _ h1;exact absurd h1 (by decide)
theorem qE {w0 w1:World} {B:Nat} {c:Cx} {s:St} {v1 v2 vs vt:Value} {q:World} (h:Lay 129 w0 w1 B c s v1 v2 vs vt q) (v:Value) (L:List Op.Opt) (hr:Op.right L=true) (hL:HoldsO q v L) :
  Calls prog 138 #[.pointer (some ⟨B,0,none⟩),v] q fun r q'=>∃ v',r=.returned (.agg #[.int .i64 (dI s.e L).1,v'])∧HoldsO q' v' (dI s.e L).2∧Below q.heap.size q q':=by
 have hB:=h.lt;have HE:Hid (∀ z,Below q.heap.size q z→z.cell? ⟨B,0,none⟩=some (.int .i64 s.e.m1)∧z.cell? ⟨B,1,none⟩=some (.int .i64 s.e.a1)∧z.cell? ⟨B,2,none⟩=some (.int .i64 s.e.g1)∧z.cell? ⟨B,3,none⟩=some (.bool s.e.p1)∧z.cell? ⟨B,4,none⟩=some (.bool s.e.c1)∧z.cell? ⟨B,5,none⟩=some (.bool s.e.d1)∧z.cell? ⟨B,8,none⟩=some (.int .i64 s.e.g2)∧z.cell? ⟨B,16,none⟩=some (.int .i64 s.e.fl)):=aa fun z hb=>by
  have hz:=h.step hb;exact ⟨hz.cell (i:=0) rfl,hz.cell (i:=1) rfl,hz.cell (i:=2) rfl,hz.cell (i:=3) rfl,hz.cell (i:=4) rfl,hz.cell (i:=5) rfl,hz.cell (i:=8) rfl,hz.cell (i:=16) rfl⟩
 have hm:L.length≤maxLen:=by have:=Op.right_len hr;unfold maxLen;omega
 have CR:Hid (∀ z,Below q.heap.size q z→Calls prog 149 #[cN s.e.m1 s.e.a1 s.e.g2 s.e.p1 s.e.c1 s.e.d1,v] z fun e w'=>∃ ad cp,e=.returned (.agg #[.int .i64 (ck s.e.m1 s.e.a1 s.e.g2 s.e.p1 s.e.c1 s.e.d1 L).1,.slice ad (ck s.e.m1 s.e.a1 s.e.g2 s.e.p1 s.e.c1 s.e.d1 L).2.length cp])∧w'.ownsRow z.heap.size 105 2 (.slice ad (ck s.e.m1 s.e.a1 s.e.g2 s.e.p1 s.e.c1 s.e.d1 L).2.length cp) (ck s.e.m1 s.e.a1 s.e.g2 s.e.p1 s.e.c1 s.e.d1 L).2.length (aj (ck s.e.m1 s.e.a1 s.e.g2 s.e.p1 s.e.c1 s.e.d1 L).2)∧Below z.heap.size z w'):=aa fun z hb=>mY s.e.m1 s.e.a1 s.e.g2 s.e.p1 s.e.c1 s.e.d1 L v z hm (hL.below hb rfl)
 have hR20:=lM s.e.m1 s.e.a1 s.e.g2 s.e.p1 s.e.c1 s.e.d1 L;have CK:Hid (∀ z vo,Below q.heap.size q z→HoldsO z vo (ck s.e.m1 s.e.a1 s.e.g2 s.e.p1 s.e.c1 s.e.d1 L).2→Calls prog 150 #[v,vo] z fun e w'=>∃ v',e=.returned v'∧w'.ownsRow z.heap.size 105 2 v' (gX L (ck s.e.m1 s.e.a1 s.e.g2 s.e.p1 s.e.c1 s.e.d1 L).2).length (aj (gX L (ck s.e.m1 s.e.a1 s.e.g2 s.e.p1 s.e.c1 s.e.d1 L).2))∧Below z.heap.size z w'):=aa fun z vo hb ho=>qD v vo L _ z hr (by omega) (hL.below hb rfl) ho
 obtain ⟨va,vc,rfl⟩:=hL.form;unfold dI;clear h hm hr hL;generalize s.e.m1=m at *;generalize s.e.a1=a at *;generalize s.e.g1=g1 at *;generalize s.e.p1=p at *;generalize s.e.c1=c9 at *;generalize s.e.d1=d at *;generalize s.e.g2=g2 at *;generalize s.e.fl=fl at *;generalize ck m a g2 p c9 d L=RR at *;obtain ⟨code,R⟩:=RR;dsimp only at CR CK hR20 ⊢;generalize gX L R=KR at *;unfold cN at CR;obtain ⟨AN,hAN⟩:∃ AN,(if code=3∧fl=3 then (4,KR) else (code,R))=AN:=⟨_,rfl⟩;rw [hAN];have HAN:=aa hAN;clear hAN;obtain ⟨N0,hN0⟩:∃ N0,q.heap.size=N0:=⟨_,rfl⟩;have hne1:¬ (B=q.heap.size):=by omega
 have hne2:¬ (q.heap.size=B):=by omega
 have hne3:¬ (B=q.heap.size+1):=by omega
 have hne4:¬ (q.heap.size+1=B):=by omega
 obtain ⟨c0,c1,c2,c3,c4,c5,c8,c16⟩:=uh HE _ ((zC q.heap.size q).alloc (zD _) (.cells #[.int .i64 0,.slice none 0 0] 97));go_enter func138,ntmps138
 go_upto_region 2 with fail
 refine ab (Rp q N0 (N0+1) m a g1 p c9 d) ?_ ?_
 ·obtain ⟨_,hA,hX,hb⟩:=br q (.cells #[.int .i64 0,.slice none 0 0] 97) (.cells #[.int .i64 m,.int .i64 a,.int .i64 g1,.bool p,.bool c9,.bool d] 24);rw [hN0] at hA hX;exact ⟨hb,hA,hX⟩
 clear c0 c1 c2 c3 c4 c5 c8 c16;intro z0 hz0;have E0:=aa hz0;obtain ⟨_,_,_,_,_,_,c8,_⟩:=uh HE _ hz0.b;have t2:z0.cell? ⟨N0+1,2,none⟩=some (.int .i64 g1):=by rw [cr hz0.c];rfl
 have f2:=aX hz0.c 2;clear hz0;go_upto_region 3 with fail
 refine ab (Rp q N0 (N0+1) m a g2 p c9 d) ((uh E0).setG (by omega) (by omega)) ?_;clear c8 t2 f2 E0;intro z1 hz1;have E1:=aa hz1;clear hz1;obtain ⟨C,hC⟩:∃ C,N0+1=C:=⟨_,rfl⟩;rw [hC] at E1 ⊢;clear hC;have SY:Hid (∀ y9,Rp q N0 C m a g2 p c9 d y9→(y9.cell? ⟨C,0,none⟩=some (.int .i64 m)∧y9.cell? ⟨C,1,none⟩=some (.int .i64 a)∧y9.cell? ⟨C,2,none⟩=some (.int .i64 g2)∧y9.cell? ⟨C,3,none⟩=some (.bool p)∧y9.cell? ⟨C,4,none⟩=some (.bool c9)∧y9.cell? ⟨C,5,none⟩=some (.bool d))):=aa fun y9 hz=>by
  have hc:=hz.c;exact ⟨by rw [cr hc];rfl,by rw [cr hc];rfl,by rw [cr hc];rfl,by rw [cr hc];rfl,by rw [cr hc];rfl,by rw [cr hc];rfl⟩
 obtain ⟨k0,k1,k2,k3,k4,k5⟩:=uh SY _ (uh E1);go_wp2_with fail
 refine (uh CR _ (uh E1).b).mono ?_;rintro e z2 ⟨ad,cp,rfl,ho2,hb2⟩;have E2:=aa (zA ((uh E1).step hb2) (HoldsO.own ho2));clear ho2 hb2 k0 k1 k2 k3 k4 k5 E1 SY CR;go_upto_region 4 with fail
 refine ab (RaP q N0 C m a g2 p c9 d z2.heap.size code (.slice ad R.length cp) R) ?_ ?_
 ·have hbA:=(zC z2.heap.size z2).alloc (zD _) (.cells #[.int .i64 code,.slice ad R.length cp] 97);exact ⟨(uh E2).1.step hbA,zF z2 _,(uh E2).2.below hbA rfl,(uh E2).1.lt⟩
 intro z4 hz4;have E4:=aa hz4;clear hz4 E2;generalize z2.heap.size=M at *;have hnM:=(uh E4).n;obtain ⟨r0,r1⟩:=ey (uh E4).m;obtain ⟨s0,s1⟩:=ey (uh E4).e.r;have f0:=aX (uh E4).e.r 0;have f1:=aX (uh E4).e.r 1;obtain ⟨_,_,_,_,_,_,_,c16⟩:=uh HE _ (uh E4).e.b;have hneM:¬ (M=N0):=by omega
 have hneM2:¬ (N0=M):=by omega
 have hN0q:q.heap.size≤N0:=Nat.le_of_eq hN0;clear hN0 hne1 hne2 hne3 hne4;by_cases hcd:code=3∧fl=3
 ·rw [if_pos hcd] at HAN;obtain ⟨hcd1,hcd2⟩:=hcd;subst hcd1;subst hcd2;have CK2:=aa (uh CK _ (.slice ad R.length cp) (uh E4).e.b (uh E4).o);clear CK;go_wp2_with fail
  refine (uh CK2).mono ?_;rintro e z5 ⟨v5,rfl,ho5,hb5⟩;obtain ⟨ka,kc,rfl⟩:=af ho5;have E5:=aa (zA ((uh E4).e.step hb5) (HoldsO.own ho5));clear hb5 ho5 CK2 r0 r1 s0 s1 f0 f1;obtain ⟨s0,s1⟩:=ey (uh E5).1.r;have f0:=aX (uh E5).1.r 0;have f1:=aX (uh E5).1.r 1;go_wp2_with fail
  refine bodyPost_ret (v:=.agg #[.int .i64 4,.slice ka KR.length kc]) (by simp [results,results138,asAddr,dM (nZ (uh E5).1.r _ _)]) rfl ?_;rw [← uh HAN];exact ⟨_,rfl,bS (uh E5).2 (uh E5).1.r (by decide) fun k _ hk=>eU hk _ _,((uh E5).1.b.setCell (p:=⟨N0,0,none⟩) hN0q _).setCell (p:=⟨N0,1,none⟩) hN0q _⟩
 ·rw [if_neg hcd] at HAN;by_cases hc3:code=3
  ·have hfl:(fl == 3)=false:=beq_eq_false_iff_ne.2 fun e=>hcd ⟨hc3,e⟩
   subst hc3;clear hcd;go_wp2_with fail
   refine bodyPost_ret (v:=.agg #[.int .i64 3,.slice ad R.length cp]) (by simp [results,results138,asAddr,dM (nZ (uh E4).e.r _ _)]) rfl ?_;rw [← uh HAN];exact ⟨_,rfl,bS (uh E4).o (uh E4).e.r (by decide) fun k _ hk=>eU hk _ _,((uh E4).e.b.setCell (p:=⟨N0,0,none⟩) hN0q _).setCell (p:=⟨N0,1,none⟩) hN0q _⟩
  ·have hcd3:(code == 3)=false:=beq_eq_false_iff_ne.2 hc3;clear hcd hc3;go_wp2_with fail
   refine bodyPost_ret (v:=.agg #[.int .i64 code,.slice ad R.length cp]) (by simp [results,results138,asAddr,dM (nZ (uh E4).e.r _ _)]) rfl ?_;rw [← uh HAN];exact ⟨_,rfl,bS (uh E4).o (uh E4).e.r (by decide) fun k _ hk=>eU hk _ _,((uh E4).e.b.setCell (p:=⟨N0,0,none⟩) hN0q _).setCell (p:=⟨N0,1,none⟩) hN0q _⟩
end Go.Proofs.YtjdgiimfpkideaaGreatDoor
namespace Go.Proofs.YtjdgiimfpkideaaGreatDoor
open Go.RowKit Go.Proofs.Tryz
theorem jy {W:World} {E k:Nat} {x0 x1:Value} (hk:k≠E):((W.setCell ⟨E,35,none⟩ x0).setCell ⟨E,36,none⟩ x1).heap[k]?=W.heap[k]? :=
 (Below.heap_setCell _ ⟨E,36,none⟩ _ _ hk).trans (Below.heap_setCell _ ⟨E,35,none⟩ _ _ hk)
theorem HoldsO.one {w:World} {v:Value} {F:List Op.Opt} (h:HoldsO w v F):v.oneCell'=true:=by
 obtain ⟨_,_,rfl⟩:=h.form;rfl
theorem u4 {w0 w1:World} {B:Nat} {c:Cx} {s:St} {v1 v2 vs vt:Value} {q:World} (h:Lay 129 w0 w1 B c s v1 v2 vs vt q) (hs:c.cd.size≤250) (hE:Et q) (h0:(ar c.cd).2≠0) :
  Calls prog 121 #[.pointer (some ⟨B,0,none⟩)] q fun r q'=>Lay 129 w0 w1 B c s v1 v2 vs vt q'∧r=.returned (.tuple #[.int .i64 0,.int .i64 (ar c.cd).2]):=by
 have CO:=aa (dS c.cd q (by unfold maxLen;omega) hE);have c33:=h.cell (i:=33) rfl;have HL:=aa h;clear h hE hs;generalize ar c.cd=OO at *;obtain ⟨L,cd⟩:=OO;dsimp only at h0 ⊢;generalize c.cd=t at *;have hb0:(cd != 0)=true:=by simpa using h0
 have hb1:(cd == 0)=false:=by simpa using h0
 clear h0;go_enter func121,ntmps121
 go_wp2_with fail
 refine (uh CO).mono ?_;rintro e z1 ⟨ad,cp,rfl,ho,hb⟩;dsimp only at ho;dsimp only;have E1:=aa ((uh HL).step hb);clear hb ho CO c33 HL;go_upto_region 2 with fail
 refine ab (fun z=>Lay 129 w0 w1 B c s v1 v2 vs vt z∧z.heap[z1.heap.size]?=some (.cells #[.slice ad L.length cp,.int .i64 cd] 180)) ?_ ?_
 ·exact ⟨(uh E1).step ((zC z1.heap.size z1).alloc (zD _) _),zF z1 _⟩
 intro z2 hz2;generalize z1.heap.size=M at *;have E2:=aa hz2;obtain ⟨m0,m1⟩:=ey hz2.2;clear hz2 E1;go_wp2_with fail
 go_quiet (fail)
 go_wp2
 refine bodyPost_ret (v:=.tuple #[.int .i64 0,.int .i64 cd]) (by simp [results,results121,go_sem]) rfl ⟨(uh E2).1.step (aH (zC _ _) _),rfl⟩
theorem sV {w0 w1:World} {B:Nat} {c:Cx} {s:St} {v1 v2 vs vt:Value} {q:World} (h:Lay 129 w0 w1 B c s v1 v2 vs vt q) (hs:c.cd.size≤250) (hE:Et q) (h0:(ar c.cd).2=0) :
  Calls prog 121 #[.pointer (some ⟨B,0,none⟩)] q fun r q'=>∃ vh va,Lay 129 w0 w1 B { c with hd:=(ar c.cd).1,vh:=vh,ac:=(dI s.e (ar c.cd).1).1,ao:=(dI s.e (ar c.cd).1).2,va:=va } s v1 v2 vs vt q'∧r=.returned (.tuple #[.int .i64 (if (dI s.e (ar c.cd).1).1=2 then 6 else 7),.int .i64 0]):=by
 have CO:=aa (dS c.cd q (by unfold maxLen;omega) hE);have hr:=dd c.cd;have c33:=h.cell (i:=33) rfl;have HL:=aa h;have hBq:=h.lt;clear h hE hs;generalize ar c.cd=OO at *;obtain ⟨L,cd⟩:=OO;dsimp only at h0 hr ⊢;subst h0;have CR:Hid (∀ (c':Cx) (z:World) (v:Value),Lay 129 w0 w1 B c' s v1 v2 vs vt z→HoldsO z v L→Calls prog 138 #[.pointer (some ⟨B,0,none⟩),v] z fun r q'=>∃ v',r=.returned (.agg #[.int .i64 (dI s.e L).1,v'])∧HoldsO q' v' (dI s.e L).2∧Below z.heap.size z q'):=aa fun c' z v hz hv=>qE hz v L hr hv
 generalize dI s.e L=AA at *;obtain ⟨AC,AO⟩:=AA;dsimp only at CR ⊢;obtain ⟨NN,hNN⟩:∃ NN:Int,(if AC=2 then 6 else 7)=NN:=⟨_,rfl⟩;rw [hNN];have HN:=aa hNN;clear hNN;go_enter func121,ntmps121
 go_wp2_with fail
 refine (uh CO).mono ?_;rintro e z1 ⟨ad,cp,rfl,ho,hb⟩;dsimp only at ho;dsimp only;have E1:=aa (zA hb ho);have hzB:B<z1.heap.size:=Nat.lt_of_lt_of_le hBq hb.size;clear hb ho CO c33;go_upto_region 2 with fail
 refine ab (fun z=>(Below q.heap.size q z∧z.ownsRow q.heap.size 105 2 (.slice ad L.length cp) L.length (aj L))∧z.heap[z1.heap.size]?=some (.cells #[.slice ad L.length cp,.int .i64 0] 180)) ?_ ?_
 ·have hbA:=(zC z1.heap.size z1).alloc (zD _) (.cells #[.slice ad L.length cp,.int .i64 0] 180);exact ⟨⟨(uh E1).1.trans (hbA.mono (uh E1).1.size),aP (uh E1).2 hbA⟩,zF z1 _⟩
 intro z2 hz2;have hMB:¬ (z1.heap.size=B):=by omega
 have hMB2:¬ (B=z1.heap.size):=by omega
 generalize z1.heap.size=M at *;have E2:=aa hz2;obtain ⟨m0,m1⟩:=ey hz2.2;have hL2:=(uh HL).step hz2.1.1;have k34:=hL2.cell (i:=34) rfl;have f34:=hL2.frz 34;clear hz2 E1 hL2;go_upto_region 5 with fail
 refine ab (fun z=>Lay 129 w0 w1 B { c with hd:=L,vh:=.slice ad L.length cp } s v1 v2 vs vt z∧z.heap[M]?=some (.cells #[.slice ad L.length cp,.int .i64 0] 180)) ?_ ?_
 ·exact ⟨(uh HL).had9 (uh E2).1.1 _ L (uh E2).1.2,(Below.heap_setCell _ ⟨B,34,none⟩ _ _ hMB).trans (uh E2).2⟩
 clear k34 f34 m0 m1 E2 HL;intro z3 hz3;have E3:=aa hz3;clear hz3;have SY:Hid (∀ y9:World,y9.heap[M]?=some (.cells #[.slice ad L.length cp,.int .i64 0] 180)→y9.cell? ⟨M,0,none⟩=some (.slice ad L.length cp)):=aa fun y9 hz=>(ey hz).1
 replace CR:Hid (∀ (z:World),Lay 129 w0 w1 B { c with hd:=L,vh:=.slice ad L.length cp } s v1 v2 vs vt z→Calls prog 138 #[.pointer (some ⟨B,0,none⟩),.slice ad L.length cp] z fun r q'=>∃ v',r=.returned (.agg #[.int .i64 AC,v'])∧HoldsO q' v' AO∧Below z.heap.size z q'):=aa fun z hz=>uh CR _ z _ hz hz.hh
 have E4:Hid (Lay 129 w0 w1 B { c with hd:=L,vh:=.slice ad L.length cp } s v1 v2 vs vt z3.drew∧z3.drew.heap[M]?=some (.cells #[.slice ad L.length cp,.int .i64 0] 180)):=aa ⟨(uh E3).1.step (zC _ _).drew,(uh E3).2⟩;refine wp_region_held_drew (S:=fun y9=>y9.cell? ⟨M,0,none⟩=some (.slice ad L.length cp)) (by kernel_rfl) (uh SY _ (uh E4).2) (fun hHeld=>?_);generalize z3.drew=yy at E4 hHeld ⊢;clear E3;refine tq 0 1 2 3 ?_;refine tt 4 5 ?_;refine r3 6 fun K hK=>?_
 go_simp;refine (uh CR _ (uh E4).1).mono ?_;rintro e z31 ⟨v5,rfl,ho31,hb31⟩;obtain ⟨xa,xc,rfl⟩:=ho31.form;have E31:=aa (zA ((uh E4).1.step hb31) ((hb31.block _ (ge.1 (uh E4).2).1).trans (uh E4).2));have A31:=aa ho31;clear hb31 ho31;go_wp2_with fail
 refine ro hK (uh SY _ (uh E31).2) fun _=>?_
 clear hK K;refine tt 7 8 ?_;refine r3 9 fun K hK=>?_
 have k35:=(uh E31).1.cell (i:=35) rfl;have k36:=(uh E31).1.cell (i:=36) rfl;have f35:=(uh E31).1.frz 35;have f36:=(uh E31).1.frz 36;have ZF:=aa ((uh E31).1.ans9 AC (.slice xa AO.length xc) AO (uh A31));have ZM:=aa ((jy (x0:=.int .i64 AC) (x1:=.slice xa AO.length xc) (fun e=>hMB (show M=B from e))).trans (uh E31).2);go_simp;clear k35 k36 f35 f36;refine ro hK (uh SY _ (uh ZM)) fun _=>?_
 clear hK K;refine dn ?_ _;go_upto_region 6 with fail
 refine ab (Lay 129 w0 w1 B { c with hd:=L,vh:=.slice ad L.length cp,ac:=AC,ao:=AO,va:=.slice xa AO.length xc } s v1 v2 vs vt) (uh ZF) ?_;intro z9 hz9;have E9:=aa hz9;have k35:=hz9.cell (i:=35) rfl;clear hz9 ZF ZM CR SY;by_cases ha:AC=2
 ·rw [if_pos ha] at HN;have hb2:(AC == 2)=true:=by simpa using ha
  clear ha;go_wp2
  refine bodyPost_ret (v:=.tuple #[.int .i64 6,.int .i64 0]) (by simp [results,results121,go_sem]) rfl ?_;exact ⟨⟨_,_,uh E9⟩,by rw [← uh HN]⟩
 ·rw [if_neg ha] at HN;have hb2:(AC == 2)=false:=by simpa using ha
  clear ha;go_wp2
  refine bodyPost_ret (v:=.tuple #[.int .i64 7,.int .i64 0]) (by simp [results,results121,go_sem]) rfl ?_;exact ⟨⟨_,_,uh E9⟩,by rw [← uh HN]⟩
end Go.Proofs.YtjdgiimfpkideaaGreatDoor
