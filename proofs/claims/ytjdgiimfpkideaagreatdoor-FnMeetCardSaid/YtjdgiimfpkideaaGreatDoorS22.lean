/- WkC RepFin SpecRep OptsOf -/
import Derived.Test.YtjdgiimfpkideaaGreatDoorS13
import Derived.Test.YtjdgiimfpkideaaGreatDoorS16
import Derived.Test.YtjdgiimfpkideaaGreatDoorS14
import Derived.Test.YtjdgiimfpkideaaGreatDoorS21
import Derived.Test.YtjdgiimfpkideaaGreatDoorS15
set_option maxHeartbeats 8000000
set_option maxRecDepth 100000
namespace Go.Proofs.YtjdgiimfpkideaaGreatDoor
open Go.RowKit Go.Proofs.Tryz
variable {x:Int} {l:List (Int × Op.Opt)} {n:UInt8} {w q q' w6:World} {N X:Nat} {C:Array Value} {vn vr v':Value} {Fn Fr:List Op.Opt} {dt t:ByteArray} {r:List UInt8}
abbrev xf:Array Value:=#[(0:Int),(0:Int),(0:Int),false,false,false,(0:Int),(0:Int),(0:Int),false,false,false,(0:Int),(0:Int),(0:Int),(0:Int),(0:Int),(),(),false,(0:Int),(0:Int),false,false,false,(0:Int),(0:Int),false,false,false]
theorem nN(e:En)(a1 a2:Option Addr)(n1 n2 m1 m2:Nat):(aA e (a1,n1,m1) (a2,n2,m2)).all (·.oneCell')=true:=by kernel_rfl
theorem bH(w:World)(g k:Nat)(cs:Array Value)(h:k≠g):(w.setRow g cs).heap[k]?=w.heap[k]?:=by
 unfold World.setRow;simp[Array.getElem?_modify,Ne.symm h]
theorem qi(z:World):(z.alloc (.cells #[] 105)).ownsRow z 105 2 (.slice (some (z,0)) ([]:List Op.Opt).length 0) ([]:List Op.Opt).length (aj []) :=
 World.ownsRow_made z #[] 0 (zD _) (Nat.zero_le _) rfl
theorem FR(e:En)(x1 x2:Option Addr)(y1 y2:Nat)(F1 F2:List Op.Opt)(w:World)(l1:F1.length<=1048576)(l2:F2.length<=1048576)(h1:HoldsO w (x1,F1.length,y1) F1)(h2:HoldsO w (x2,F2.length,y2) F2):Calls prog 68 #[.agg (aA e (x1,F1.length,y1) (x2,F2.length,y2))] w fun r w'=>∃v1 v2,r=.returned (.agg (aA e v1 v2))/\w'.ownsRow w 105 2 v1 F1.length (aj F1)/\w'.ownsRow w 105 2 v2 F2.length (aj F2)/\Ap v1 v2/\Below w w w':=by
 have HH:=aa (zA h1 h2);clear h1 h2;obtain⟨n1,e1⟩:∃n,F1.length=n:=⟨_,rfl⟩;obtain⟨n2,e2⟩:∃n,F2.length=n:=⟨_,rfl⟩;rw[e1]at HH l1|-;rw[e2]at HH l2|-;have hst:=br w (.cells (aA e (x1,n1,y1) (x2,n2,y2)) 32) (.cells xf 32);have HST:=aa hst;clear hst;obtain⟨A,hA⟩ := ex w.heap.size;go_enter func68,ntmps68
 go_upto_region 1 with fail
 refine bb (fun z=>z.heap[A]?=some (.cells (aA e (x1,n1,y1) (x2,n2,y2)) 32)/\z.heap[A+1]?=some (.cells xf 32)/\Below A w z) ?_ ?_
 .obtain ⟨_,b,c,d⟩:=uh HST;rw[hA]at b c d;exact⟨b,c,d⟩
 clear HST;rintro z⟨za,zb,zl⟩;have hzA:A+1<z.heap.size:=(ge.1 zb).1;have bz:Below z z (z.alloc (.cells #[] 105)):=(zC _ _).alloc (zD _) _;have za1:=(bz.block A (by omega)).trans za;have c17:(z.alloc (.cells #[] 105)).cell? (A,17)=some (.slice x1 n1 y1):=cv za1
 have hzs:A+1+1<=z.heap.size:=hzA;have HO:=aa (qi z);have HZ:=aa (zA za (zA zb zl));have HM:Hid (HoldsO (z.alloc (.cells #[] 105)) (x1,n1,y1) F1):=aa ((HH.out.1.below zl hA.symm).below bz rfl);clear za zb za1 bz
 go_upto_region 2 with(first
  | (at_builtin;refine fM rfl _ _ rfl z (.slice (some (z,0)) 0 0) (x1,n1,y1) [] F1 rfl rfl HO.out HM.out (Nat.zero_le _) (by omega) (by simp) ?_;rintro v6 w6 ho6 hg6
     have a6:=(hg6.block A (by simp;omega) (fun e=>by have e':_=z.heap.size:=Option.some.inj e;omega)).trans ((zG _ _ _ (by omega)).trans HZ.out.1);have b6:=(hg6.block (A+1) (by simp;omega) (fun e=>by have e':_=z.heap.size:=Option.some.inj e;omega)).trans ((zG _ _ _ (by omega)).trans HZ.out.2.1);have k6:w6.cell? (A,17)=some (.slice x1 n1 y1):=cv a6
     have f6:w6.frozen? (A,17)=false:=aX a6 17;have H6:=aa (zA a6 (zA b6 (zA ho6 hg6)));obtain⟨a0,c0,hv6⟩:=af ho6;rw[List.nil_append,e1]at hv6;subst hv6;clear a6 b6 ho6 hg6))
 refine bb (fun q=>q.heap[A]?=some (.cells (aA e (a0,n1,c0) (x2,n2,y2)) 32)/\q.heap[A+1]?=some (.cells xf 32)/\q.ownsRow z 105 2 (a0,n1,c0) n1 (aj F1)/\Below A w q) ?_ ?_
 .obtain ⟨a6,b6,ho6,hg6⟩:=uh H6;rw[List.nil_append,e1]at ho6;have hno:(Value.slice a0 n1 c0).ownBlock≠some A:=fun e=>by have:=(ho6.lt A e).1;omega
  have hk:∀k,k≠A->(w6.setCell (A,17) (a0,n1,c0)).heap[k]?=w6.heap[k]?:=fun k hk=>heap_setCell_other w6 _ _ _ hk
  refine⟨zH w6 A 17 _ _ (a0,n1,c0) a6,(hk (A+1) (by omega)).trans b6,bZ ho6 fun g hg=>hk g fun e=>hno (e▸hg),?_⟩;refine Below.setCell (p:=(A,17)) ?_ (zD _) _;have hl:=HZ.out.2.2;exact⟨hg6.os.trans hl.os,hg6.tape.trans hl.tape,hg6.output.trans hl.output,zE (zE hl.size (by simp)) hg6.size,fun b (hb:b<A)=>(hg6.block b (by simp;omega) (fun e=>by have e':_=z.heap.size:=Option.some.inj e;omega)).trans ((zG _ _ _ (by omega)).trans (hl.block b hb))⟩
 clear H6 HZ HO HM c17 k6 f6 hzA zl;rintro q⟨qa,qb,qo,ql⟩;have hqA:A+1<q.heap.size:=(ge.1 qb).1;have bq:Below q q (q.alloc (.cells #[] 105)):=(zC _ _).alloc (zD _) _;have qa1:=(bq.block A (by omega)).trans qa;have c18:(q.alloc (.cells #[] 105)).cell? (A,18)=some (.slice x2 n2 y2):=cv qa1
 have HO:=aa (qi q);have HZ:=aa (zA qa (zA qb (zA qo ql)));have HM:Hid (HoldsO (q.alloc (.cells #[] 105)) (x2,n2,y2) F2):=aa ((HH.out.2.below ql hA.symm).below bq rfl);clear qa qb qa1 bq qo
 go_upto_region 3 with(first
  | (at_builtin;refine fM rfl _ _ rfl q (.slice (some (q,0)) 0 0) (x2,n2,y2) [] F2 rfl rfl HO.out HM.out (Nat.zero_le _) (by omega) (by simp) ?_;rintro v6 w6 ho6 hg6
     have a6:=(hg6.block A (by simp;omega) (fun e=>by have e':_=q.heap.size:=Option.some.inj e;omega)).trans ((zG _ _ _ (by omega)).trans HZ.out.1);have b6:=(hg6.block (A+1) (by simp;omega) (fun e=>by have e':_=q.heap.size:=Option.some.inj e;omega)).trans ((zG _ _ _ (by omega)).trans HZ.out.2.1);have k6:w6.cell? (A,18)=some (.slice x2 n2 y2):=cv a6
     have f6:w6.frozen? (A,18)=false:=aX a6 18;have H6:=aa (zA a6 (zA b6 (zA ho6 hg6)));obtain⟨a2,c2,hv6⟩:=af ho6;rw[List.nil_append,e2]at hv6;subst hv6;clear a6 b6 ho6 hg6))
 refine bb (fun u=>u.heap[A]?=some (.cells (aA e (a0,n1,c0) (a2,n2,c2)) 32)/\u.heap[A+1]?=some (.cells xf 32)/\u.ownsRow (A+1+1) 105 2 (a0,n1,c0) n1 (aj F1)/\u.ownsRow (A+1+1) 105 2 (a2,n2,c2) n2 (aj F2)/\Ap (a0,n1,c0) (.slice a2 n2 c2)/\Below A w u) ?_ ?_
 .obtain ⟨a6,b6,ho6,hg6⟩:=uh H6;obtain⟨_,_,qo,hl⟩:=uh HZ;rw[List.nil_append,e2]at ho6;have hno:(Value.slice a2 n2 c2).ownBlock≠some A:=fun e=>by have:=(ho6.lt A e).1;omega
  have hn1:∀g,(Value.slice a0 n1 c0).ownBlock=some g->A+1+1<=g/\g<q.heap.size:=fun g hg=>⟨by have:=(qo.lt g hg).1;omega,(qo.lt g hg).2⟩
  have hk:∀k,k≠A->(w6.setCell (A,18) (a2,n2,c2)).heap[k]?=w6.heap[k]?:=fun k hk=>heap_setCell_other w6 _ _ _ hk
  have o1:w6.ownsRow z 105 2 (a0,n1,c0) n1 (aj F1):=bZ qo fun g hg=>(hg6.block g (by have:=(hn1 g hg).2;simp;omega) (fun e=>by have e':_=q.heap.size:=Option.some.inj e;have:=(hn1 _ hg).2;omega)).trans (zG _ _ _ (hn1 g hg).2)
  refine⟨zH w6 A 18 _ _ (a2,n2,c2) a6,(hk (A+1) (by omega)).trans b6,aE (bZ o1 fun g hg=>hk g fun e=>by have:=(hn1 g hg).1;omega) hzs,aE (bZ ho6 fun g hg=>hk g fun e=>hno (e▸hg)) (by omega),fun g hg e=>by have h1:=(hn1 g hg).2;have h2:=(ho6.lt g e).1;omega,?_⟩;refine Below.setCell (p:=(A,18)) ?_ (zD _) _;exact⟨hg6.os.trans hl.os,hg6.tape.trans hl.tape,hg6.output.trans hl.output,zE (zE hl.size (by simp)) hg6.size,fun b (hb:b<A)=>(hg6.block b (by simp;omega) (fun e=>by have e':_=q.heap.size:=Option.some.inj e;omega)).trans ((zG _ _ _ (by omega)).trans (hl.block b hb))⟩
 clear H6 HZ HO HM c18 k6 f6 hqA ql;rintro u⟨ua,ub,uo1,uo2,uap,ul⟩;have hall:=nN e a0 a2 n1 n2 c0 c2;have HU:=aa (zA ua (zA ub (zA uo1 (zA uo2 (zA uap ul)))));clear ua ub uo1 uo2 uap ul;apply wp_region_lit
 refine wpList_load_row rfl 32 (.tmp 1) rfl A rfl 32 (aA e (a0,n1,c0) (a2,n2,c2)) (0,0) _ HU.out.1 underlying32 rfl aL ?_;refine wpList_store_rowTo rfl 32 (.tmp 2) (.tmp 13) rfl rfl (A+1) (aA e (a0,n1,c0) (a2,n2,c2)) rfl rfl 32 xf HU.out.2.1 aL rfl hall ?_;apply wpList_nil
 simp only[Act.put,List.setIfInBounds_toArray,List.set_cons_zero,List.set_cons_succ];go_wp2
 refine bodyPost_ret (v:=.agg (aA e (a0,n1,c0) (a2,n2,c2))) (by simp[results,results68,asAddr,ja (setRow_heap u (A+1) _ (aA e (a0,n1,c0) (a2,n2,c2)) _ _ HU.out.2.1)]) rfl ?_;obtain⟨ua,ub,uo1,uo2,uap,ul⟩:=uh HU;rw[hA];exact⟨_,_,rfl,aE (bZ uo1 fun g hg=>bH u (A+1) g _ fun e=>by have:=(uo1.lt g hg).1;omega) (by omega),aE (bZ uo2 fun g hg=>bH u (A+1) g _ fun e=>by have:=(uo2.lt g hg).1;omega) (by omega),uap,am ul (by omega) _⟩
theorem FT(l:List (Int × Op.Opt))(b:Int):b<=l.foldl (fun m v=>max m v.1) b/\(∀v∈l,v.1<=l.foldl (fun m v=>max m v.1) b)/\(l.foldl (fun m v=>max m v.1) b=b\/∃v∈l,l.foldl (fun m v=>max m v.1) b=v.1):=by
 induction l generalizing b with
 | nil=>simp
 | cons x l ih =>
  rw[List.foldl_cons];obtain⟨h1,h2,h3⟩:=ih (max b x.1);refine⟨by omega,fun v hv=>?_,?_⟩
  .rcases List.mem_cons.1 hv with rfl|hv
   .omega
   .exact h2 v hv
  .rcases h3 with h3|⟨v,hv,h3⟩
   .rw [h3];by_cases hb:x.1<=b
    .left;omega
    .right;exact⟨x,by simp,by omega⟩
   .right;exact⟨v,by simp[hv],h3⟩
theorem mV(h:fl x l=[]):∀v∈l,v.1≠x:=by
 intro v hv e;have:v.2∈fl x l:=by
  unfold fl;exact List.mem_map.2 ⟨v,List.mem_filter.2 ⟨hv,by simp[e]⟩,rfl⟩
 rw[h]at this;cases this
theorem nQ(h:fl x l≠[]):∃v∈l,v.1=x:=by
 obtain⟨o,ho⟩:=List.exists_mem_of_ne_nil _ h;unfold fl at ho;obtain⟨v,hv,_⟩:=List.mem_map.1 ho;obtain⟨h1,h2⟩:=List.mem_filter.1 hv;exact⟨v,h1,by simpa using h2⟩
theorem qp(m a g:Nat)(p c d:Bool)(o:Op.Opt):((one m a g p c d o).1=2/\(one m a g p c d o).2=o)\/(one m a g p c d o).1=3\/(one m a g p c d o).1=4:=by
 unfold one;split
 .rcases BB a g p c d o.kind (da o.data.data.toList)with h|h|h
  .left
   rw[h];exact⟨rfl,rfl⟩
  .right;left;exact h
  .right;right;exact h
 .right;right;rfl
theorem Ak(m a g:Nat)(p c d:Bool)(L:List Op.Opt)(i:Nat)(hi:i<L.length):((eO m a g p c d L i).1=2/\(eO m a g p c d L i).2=L[i])\/(eO m a g p c d L i).1=3\/(eO m a g p c d L i).1=4:=by
 rw[gC m a g p c d L i hi];unfold gB;split
 .right;right;rfl
 .exact qp m a g p c d _
theorem nR{m a g:Nat}{p c d:Bool}{L:List Op.Opt}{n:Nat}{v:Int × Op.Opt}(h:v∈dL m a g p c d L n):∃i,i<n/\v=eO m a g p c d L i:=by
 unfold dL at h;obtain⟨i,hi,e⟩:=List.mem_map.1 h;exact⟨i,by simpa using hi,e.symm⟩
theorem sK(m a g:Nat)(p c d:Bool)(L:List Op.Opt)(n i:Nat)(hi:i<n):eO m a g p c d L i∈dL m a g p c d L n:=by
 unfold dL;exact List.mem_map.2 ⟨i,by simpa using hi,rfl⟩
theorem sL(m a g:Nat)(p c d:Bool)(L:List Op.Opt):(fl 4 (dL m a g p c d L L.length)≠[]->mx (dL m a g p c d L L.length)=4)/\(fl 4 (dL m a g p c d L L.length)=[]->fl 3 (dL m a g p c d L L.length)≠[]->mx (dL m a g p c d L L.length)=3) /\
   (fl 4 (dL m a g p c d L L.length)=[]->fl 3 (dL m a g p c d L L.length)=[]->mx (dL m a g p c d L L.length)=2/\fl 2 (dL m a g p c d L L.length)=L):=by
 have hc:∀v∈dL m a g p c d L L.length,v.1=2\/v.1=3\/v.1=4:=by
  intro v hv;obtain⟨i,hi,rfl⟩:=nR hv;rcases Ak m a g p c d L i hi with h|h|h
  .exact Or.inl h.1
  .exact Or.inr (Or.inl h)
  .exact Or.inr (Or.inr h)
 have hall:∀n,n<=L.length->(∀i,i<n->(eO m a g p c d L i).1=2)->fl 2 (dL m a g p c d L n)=L.take n:=by
  intro n;induction n with
  | zero=>intro _ _;rfl
  | succ n ih =>
   intro hn h;rw[fw,iC,ih (by omega) fun i hi=>h i (by omega),List.take_succ_eq_append_getElem (by omega),h n (by omega)];have:=Ak m a g p c d L n (by omega)
   rw[h n (by omega)]at this;rcases this with⟨_,e⟩|e|e
   .rw [e];rfl
   .cases e
   .cases e
 obtain⟨h1,h2,h3⟩:=FT (dL m a g p c d L L.length) 2;replace h1:2<=mx (dL m a g p c d L L.length):=h1;replace h2:∀v∈(dL m a g p c d L L.length),v.1<=mx (dL m a g p c d L L.length):=h2;replace h3:mx (dL m a g p c d L L.length)=2\/∃v∈(dL m a g p c d L L.length),mx (dL m a g p c d L L.length)=v.1:=h3;refine⟨fun h=>?_,fun h4 h=>?_,fun h4 h3'=>?_⟩
 .obtain ⟨v,hv,e⟩:=nQ h;have:=h2 v hv
  rcases h3 with h3|⟨u,hu,h3⟩
  .omega
  .have:=hc u hu
   omega
 .obtain ⟨v,hv,e⟩:=nQ h;have:=h2 v hv
  rcases h3 with h3|⟨u,hu,h3⟩
  .omega
  .have:=hc u hu
   have:=mV h4 u hu
   omega
 .have h22:∀i,i<L.length->(eO m a g p c d L i).1=2:=by
   intro i hi;have hv:=sK m a g p c d L L.length i hi;have:=hc _ hv
   have:=mV h4 _ hv
   have:=mV h3' _ hv
   omega
  refine⟨?_,by rw[hall L.length (zD _) h22,List.take_length]⟩;rcases h3 with h3|⟨u,hu,h3⟩
  .exact h3
  .obtain ⟨i,hi,rfl⟩:=nR hu;rw[h3,h22 i hi]
structure RpS(w:World)(N:Nat)(C:Array Value)(vn vr:Value)(Fn Fr:List Op.Opt)(q:World):Prop where
 c:q.heap[w.heap.size]?=some (.cells C 24)
 r:q.heap[w.heap.size+1]?=some (.cells #[(0:Int),()] 97)
 n:q.heap[N]?=some (.cells #[(3:Int),vn] 97)
 j:q.heap[N+1]?=some (.cells #[(4:Int),vr] 97)
 b:Below w w q
 on:q.ownsRow (N+1+1) 105 2 vn Fn.length (aj Fn)
 oj:q.ownsRow (N+1+1) 105 2 vr Fr.length (aj Fr)
 dj:∀g,vn.ownBlock=some g->vr.ownBlock≠some g
 lt:w.heap.size+1<N
theorem RpS.size(h:RpS w N C vn vr Fn Fr q):N+1<q.heap.size:=(ge.1 h.j).1
theorem RpS.step(h:RpS w N C vn vr Fn Fr q)(hb:Below q q q'):RpS w N C vn vr Fn Fr q':=by
 have hs:=h.size;have hl:=h.lt;exact⟨(hb.block _ (by omega)).trans h.c,(hb.block _ (by omega)).trans h.r,(hb.block _ (by omega)).trans h.n,(hb.block _ hs).trans h.j,h.b.trans (hb.mono h.b.size),ew h.on fun g hg=>hb.block g (World.ownsRow.lt h.on g hg).2,ew h.oj fun g hg=>hb.block g (World.ownsRow.lt h.oj g hg).2,h.dj,hl⟩
theorem RpS.drew(h:RpS w N C vn vr Fn Fr q):RpS w N C vn vr Fn Fr q.drew :=
 h.step ⟨rfl,rfl,rfl,zD _,fun _ _=>rfl⟩
theorem RpS.drewN(h:RpS w N C vn vr Fn Fr q)(k:Nat):RpS w N C vn vr Fn Fr (q.drewN k) :=
 h.step ⟨rfl,rfl,rfl,zD _,fun _ _=>rfl⟩
theorem RpS.putX(h:RpS w N C vn vr Fn Fr q)(X i:Nat)(x:Value)(hX:N+1<X)(h1:∀g,vn.ownBlock=some g->g≠X)(h2:∀g,vr.ownBlock=some g->g≠X):RpS w N C vn vr Fn Fr (q.setCell (X,i) x):=by
 have hl:=h.lt;refine⟨?_,?_,?_,?_,h.b.setCell (p:=(X,i)) (by simp;omega) _,ew h.on fun g hg=>zJ _ _ _ _ (h1 g hg),ew h.oj fun g hg=>zJ _ _ _ _ (h2 g hg),h.dj,hl⟩
 .rw [zJ _ _ _ _ (by simp;omega)];exact h.c
 .rw [zJ _ _ _ _ (by simp;omega)];exact h.r
 .rw [zJ _ _ _ _ (by simp;omega)];exact h.n
 .rw [zJ _ _ _ _ (by simp;omega)];exact h.j
theorem RpS.appN{kd:Int}(h:RpS w N C vn vr Fn Fr q)(ho:w6.ownsRow (N+1+1) 105 2 v' (Fn.length+1) (aj (Fn++[⟨kd,dt⟩])))(hg:(q.alloc (.cells #[kd,dt] 105)).grownBy w6 vn.ownBlock)(hat:v'.ownBlock=vn.ownBlock\/v'.ownBlock=some (q.heap.size+1)):RpS w N C v' vr (Fn++[⟨kd,dt⟩]) Fr (w6.setCell (N,1) v'):=by
 have hs:=h.size;have hl:=h.lt;have blk:∀g,g<q.heap.size->vn.ownBlock≠some g->w6.heap[g]?=q.heap[g]?:=fun g hgl hne=>(hg.block g (by simp;omega) (fun e=>hne e.symm)).trans (zG _ _ _ hgl)
 have nb:∀g,g<=N+1->vn.ownBlock≠some g:=fun g hgl e=>by have:=(World.ownsRow.lt h.on g e).1;omega
 have hN:=(blk N (by omega) (nb N (by omega))).trans h.n;have hB:Below w w w6:=h.b.trans ⟨hg.os.trans rfl,hg.tape.trans rfl,hg.output.trans rfl,zE (by simp) hg.size,fun g hgl=>blk g (by omega) (nb g (by omega))⟩;refine⟨?_,?_,zH _ _ 1 _ _ _ hN,?_,hB.setCell (p:=(N,1)) (by simp;omega) _,?_,?_,?_,hl⟩
 .rw [zJ _ _ _ _ (by simp;omega)];exact(blk _ (by omega) (nb _ (by omega))).trans h.c
 .rw [zJ _ _ _ _ (by simp;omega)];exact(blk _ (by omega) (nb _ (by omega))).trans h.r
 .rw [zJ _ _ _ _ (by simp)];exact(blk _ hs (nb _ (by omega))).trans h.j
 .have:=ew (w':=w6.setCell (N,1) v') ho fun g hgo=>zJ _ _ _ _ (by have:=(World.ownsRow.lt ho g hgo).1;simp;omega)
  rw[List.length_append];exact this
 .refine ew (w:=q) h.oj fun g hgo=>?_
  have h2:=World.ownsRow.lt h.oj g hgo;rw[zJ _ _ _ _ (by simp;omega)];exact blk g h2.2 fun e=>h.dj g e hgo
 .intro g e1 e2;have h2:=World.ownsRow.lt h.oj g e2;rcases hat with e|e
  .exact h.dj g (e▸e1) e2
  .rw [e]at e1;cases e1;omega
theorem RpS.appR{kd:Int}(h:RpS w N C vn vr Fn Fr q)(ho:w6.ownsRow (N+1+1) 105 2 v' (Fr.length+1) (aj (Fr++[⟨kd,dt⟩])))(hg:(q.alloc (.cells #[kd,dt] 105)).grownBy w6 vr.ownBlock)(hat:v'.ownBlock=vr.ownBlock\/v'.ownBlock=some (q.heap.size+1)):RpS w N C vn v' Fn (Fr++[⟨kd,dt⟩]) (w6.setCell (N+1,1) v'):=by
 have hs:=h.size;have hl:=h.lt;have blk:∀g,g<q.heap.size->vr.ownBlock≠some g->w6.heap[g]?=q.heap[g]?:=fun g hgl hne=>(hg.block g (by simp;omega) (fun e=>hne e.symm)).trans (zG _ _ _ hgl)
 have nb:∀g,g<=N+1->vr.ownBlock≠some g:=fun g hgl e=>by have:=(World.ownsRow.lt h.oj g e).1;omega
 have hN:=(blk (N+1) (by omega) (nb (N+1) (by omega))).trans h.j;have hB:Below w w w6:=h.b.trans ⟨hg.os.trans rfl,hg.tape.trans rfl,hg.output.trans rfl,zE (by simp) hg.size,fun g hgl=>blk g (by omega) (nb g (by omega))⟩;refine⟨?_,?_,?_,zH _ _ 1 _ _ _ hN,hB.setCell (p:=(N+1,1)) (by simp;omega) _,?_,?_,?_,hl⟩
 .rw [zJ _ _ _ _ (by simp;omega)];exact(blk _ (by omega) (nb _ (by omega))).trans h.c
 .rw [zJ _ _ _ _ (by simp;omega)];exact(blk _ (by omega) (nb _ (by omega))).trans h.r
 .rw [zJ _ _ _ _ (by simp)];exact(blk _ (by omega) (nb _ (by omega))).trans h.n
 .refine ew (w:=q) h.on fun g hgo=>?_
  have h2:=World.ownsRow.lt h.on g hgo;rw[zJ _ _ _ _ (by simp;omega)];exact blk g h2.2 fun e=>h.dj g hgo e
 .have:=ew (w':=w6.setCell (N+1,1) v') ho fun g hgo=>zJ _ _ _ _ (by have:=(World.ownsRow.lt ho g hgo).1;simp;omega)
  rw[List.length_append];exact this
 .intro g e1 e2;have h2:=World.ownsRow.lt h.on g e1;rcases hat with e|e
  .exact h.dj g e1 (e▸e2)
  .rw [e]at e2;cases e2;omega
structure RpX(w:World)(N:Nat)(C:Array Value)(vn vr:Value)(Fn Fr:List Op.Opt)(kd:Int)(t:ByteArray)(X:Nat)(q:World):Prop where
 s:RpS w N C vn vr Fn Fr q
 x:q.heap[X]?=some (.cells #[kd,t] 105)
 l:N+1<X
 n1:∀g,vn.ownBlock=some g->g≠X
 n2:∀g,vr.ownBlock=some g->g≠X
theorem RpX.step{kd:Int}(h:RpX w N C vn vr Fn Fr kd t X q)(hb:Below q q q'):RpX w N C vn vr Fn Fr kd t X q' :=
 ⟨h.s.step hb,(hb.block _ (ge.1 h.x).1).trans h.x,h.l,h.n1,h.n2⟩
theorem RpX.drewN{kd:Int}(h:RpX w N C vn vr Fn Fr kd t X q)(k:Nat):RpX w N C vn vr Fn Fr kd t X (q.drewN k) :=
 h.step ⟨rfl,rfl,rfl,zD _,fun _ _=>rfl⟩
theorem RpX.new1(h:RpS w N C vn vr Fn Fr q)(hb:Below q q q')(kd:Int)(t:ByteArray):RpX w N C vn vr Fn Fr kd t q' (q'.alloc (.cells #[kd,t] 105)):=by
 have hs:=h.size;have h2:=hb.size;refine⟨(h.step hb).step ((zC _ _).alloc (zD _) _),zF q' _,by omega,fun g hg=>?_,fun g hg=>?_⟩
 .have:=(World.ownsRow.lt h.on g hg).2;omega
 .have:=(World.ownsRow.lt h.oj g hg).2;omega
theorem RpX.put{kd:Int}(h:RpX w N C vn vr Fn Fr kd t X q)(kd':Int)(t':ByteArray):RpX w N C vn vr Fn Fr kd' t' X ((q.setCell (X,0) kd').setCell (X,1) t') :=
 ⟨(h.s.putX X 0 _ h.l h.n1 h.n2).putX X 1 _ h.l h.n1 h.n2,aM h.x _ _,h.l,h.n1,h.n2⟩
theorem RpX.new2(h:RpS w N C vn vr Fn Fr q)(k0:Int)(t0:ByteArray)(hb:Below (q.alloc (.cells #[k0,t0] 105)).heap.size (q.alloc (.cells #[k0,t0] 105)) q')(kd:Int)(t:ByteArray):RpX w N C vn vr Fn Fr kd t q ((q'.setCell (q,0) kd).setCell (q,1) t) :=
 ((RpX.new1 h (zC _ _) k0 t0).step hb).put kd t
def FU:Value->Nat
  | .slice _ n _=>n
  | _=>0
theorem yT(h:n.toNat<2\/22<n.toNat\/r.length+2<n.toNat):oL 2 20 n.toNat r=true:=decide_eq_true (by omega)
theorem xu(h:¬(n.toNat<2\/22<n.toNat\/r.length+2<n.toNat)):oL 2 20 n.toNat r=false:=decide_eq_false (by omega)
theorem qv(out:List Op.Opt){k:UInt8}(h:n.toNat<2\/22<n.toNat\/r.length+2<n.toNat):Op.acc out (k::n::r)=none:=by
  rcases h with h|h|h
  . exact Op.acc_bad out (Or.inl h)
  . exact Op.acc_long out h
  . exact Op.acc_bad out (Or.inr h)
theorem kA(w:World):Calls prog 162 #[] w fun e w'=>e=.returned (.agg #[.slice (some (w.heap.size+1,0)) 3 3,(2:Int),(20:Int),(3:Int)]) /\
    w'.heap[w.heap.size+1]?=some (.cells #[(0:Int),(1:Int),(3:Int)] 248)/\Below w w w':=by
  go_enter func162,ntmps162
  go_wp2
  refine bodyPost_ret (v:=.agg #[.slice (some (w.heap.size+1,0)) 3 3,(2:Int),(20:Int),(3:Int)]) (by simp[results,results162,go_sem]) rfl ⟨rfl,?_,((zC _ _).alloc (zD _) _).alloc (by simp) _⟩;have h:=zF (w.alloc (.cells #[.slice (some (w.heap.size+1,0)) 3 3,(2:Int),(20:Int),(3:Int)] 217)) (.cells #[(0:Int),(1:Int),(3:Int)] 248);rw[show(w.alloc (.cells #[.slice (some (w.heap.size+1,0)) 3 3,(2:Int),(20:Int),(3:Int)] 217)).heap.size=w.heap.size+1 by simp]at h;exact h
theorem qw{base:Nat}{sa:Option Addr}{n sc:Nat}{xs:List Value}(h:w.ownsRow base 2 1 (.slice sa n sc) n xs)(hn:0<n): ∃g,sa=some ⟨g,0,none⟩/\base<=g/\g<w.heap.size/\∀i x,xs[i]?=some x->w.cell? ⟨g,i,none⟩=some x:=by
  rcases h.2 with⟨_,h0⟩|⟨g,cap,cur,h1,h2,h3,h4,h5,h6,h7⟩
  . omega
  . simp only[Value.slice.injEq,true_and]at h1
    obtain⟨rfl,rfl⟩:=h1;refine⟨g,rfl,h2,(ge.1 h3).1,fun i x hx=>?_⟩;rw[cr h3,<- hx,<- h7,List.getElem?_take,if_pos,Array.getElem?_toList];have:=(List.getElem?_eq_some_iff.1 hx).1
    have hl:=h.1;omega
def sO(w w':World)(res:Option (List Op.Opt))(e:Ending):Prop :=
  (res=none/\e=.returned (.tuple #[(),cS 3])/\Below w w w') \/
    (∃L ad cp,res=some L/\e=.returned (.tuple #[.slice ad L.length cp,.nilIface])/\w'.ownsRow w.heap.size 105 2 (.slice ad L.length cp) L.length (aj L)/\Below w.heap.size w w')
theorem oN(w:World)(B:Nat)(v:Value)(l:List UInt8)(hl8:l.length<=8000)(hB:B<w.heap.size)(hv:Rest w B v l):Calls prog 147 #[v] w fun e w'=>sO w w' (Op.acc [] l) e:=by
  obtain⟨i0,hi0,hz0,hz1,hz2⟩:=kW;obtain⟨RES,hRES⟩:∃R,Op.acc [] l=R:=⟨_,rfl⟩;rw[hRES];have HV:=aa hv;obtain⟨off0,cap0,hvf,_⟩:=hv;subst hvf;go_enter func147,ntmps147
  go_wp2_with fail
  go_loopw [0,4] (fun x y wr=>∃(l':List UInt8)(out:List Op.Opt),(∃o c,x=.slice (some ⟨B,o,none⟩) l'.length c)/\Rest wr B x l'/\l'.length<=8000/\(∃a c,y=.slice a out.length c)/\wr.ownsRow w.heap.size 105 2 y out.length (aj out)/\Op.right out=true/\Op.acc out l'=RES/\Below w.heap.size w wr) (fun x _ _=>FU x)
  case atStart=>exact⟨l,[],⟨_,_,rfl⟩,uh HV,hl8,⟨_,_,rfl⟩,⟨rfl,Or.inl ⟨rfl,rfl⟩⟩,rfl,hRES,zC _ _⟩
  case round =>
    obtain⟨l',out,⟨off,cap,rfl⟩,hv,hl8',⟨ya,yc,rfl⟩,hown,hrt,hacc,hb⟩:=hrel;have hbs:=hb.size;have hout:=Op.right_len hrt;have HOW:=aa hown;have HVV:=aa hv;clear HV hown hv;rcases l' with _|⟨k,l'⟩
    . rw[Op.acc_nil,if_pos hrt]at hacc
      go_wp2
      go_ret2
      exact Or.inr ⟨out,_,_,hacc.symm,rfl,uh HOW,hb⟩
    . have d1:(0:Int)<(l'.length:Int)+1:=by omega
      have HRT:=aa hrt;have HAC:=aa hacc;clear hrt hacc;go_wp2_with fail
      refine(kA wr).mono ?_;rintro e w1⟨rfl,hP,hb1⟩;have hv1:=HVV.out.same (hb1.block B (by omega));have hb01:Below w w w1:=hb.trans (hb1.mono hbs);have hs1:=hb1.size;rcases l' with _|⟨n,r⟩
      . have hres:RES=none:=by rw[<- uh HAC,Op.acc_one]
        go_wp2_with fail
        refine(qt w1 _ B _ k hP (by omega) hv1).mono ?_;rintro e w2⟨rfl,hb2⟩;have hb02:=hb01.trans (hb2.mono hb01.size);unfold dc cS;clear HAC HOW HVV hv1 hP HRT;go_wp2
        go_ret2
        exact Or.inl ⟨hres,rfl,hb02.alloc hb02.size _⟩
      . by_cases hbd:n.toNat<2\/22<n.toNat\/r.length+2<n.toNat
        . have hres:RES=none:=by rw[<- uh HAC,qv out hbd]
          go_wp2_with fail
          refine(qu w1 _ B _ k n r hP (by omega) hv1 (yT hbd)).mono ?_;rintro e w2⟨rfl,hb2⟩;have hb02:=hb01.trans (hb2.mono hb01.size);unfold dc cS;clear HAC HOW HVV hv1 hP HRT hbd;go_wp2
          go_ret2
          exact Or.inl ⟨hres,rfl,hb02.alloc hb02.size _⟩
        . have hac:=uh HAC
          rw[Op.acc_step out (by omega)]at hac;have hlen2:(r.drop (n.toNat-2)).length<=r.length:=by rw[List.length_drop];omega
          have HAC2:=aa hac;have hr8:r.length+2<=8000:=by simpa using hl8'
          clear HAC hac;go_wp2_with fail
          refine(qs w1 _ B _ k n r hP (by omega) hv1 (xu hbd)).mono ?_;rintro e w2⟨off2,cap2,sa,sc,x,rfl,hR2,ho2,hb2⟩;generalize co (r.take (n.toNat-2))=T at*;generalize r.drop (n.toNat-2)=L2 at*;have hs2:=hb2.size;obtain⟨g,rfl,hg1,hg2,hgc⟩:=qw ho2 (by decide);have g0:=hgc 0 _ rfl;have hb02:Below wr wr w2:=hb1.trans (hb2.mono hs1);have hownB:∀q,(Value.slice ya out.length yc).ownBlock=some q->w.heap.size<=q/\q<wr.heap.size:=fun q hq=>World.ownsRow.lt HOW.out q hq
          have HO2:Hid (w2.ownsRow w 105 2 (ya,out.length,yc) out.length (aj out)):=aa (aY HOW.out fun q _ hq=>hb02.block q hq);have HG:=aa g0;have HR2:=aa hR2;have hbw2:Below w w w2:=hb.trans (hb02.mono hbs);clear HOW HVV hv1 hP hgc ho2 hbd g0 hR2 hb1 hb2;have n1:(Value.slice ya out.length yc).ownBlock≠some w2.heap.size:=fun e=>by have:=hownB _ e;omega
          have n2:(Value.slice ya out.length yc).ownBlock≠some g:=fun e=>by have:=hownB _ e;omega
          have n3:(Value.slice ya out.length yc).ownBlock≠some B:=fun e=>by have:=hownB _ e;omega
          go_wp2_with fail
          refine bb (fun q=>q.heap[w2.heap.size]?=some (.cells #[.slice (some (wr.heap.size+1,0)) 3 3,(2:Int),(20:Int),(3:Int),.slice (some (B,off2)) L2.length cap2,.slice (some (g,0)) 1 sc,x,T] 219)/\q.cell? (g,0)=some (.int .i64 k.toNat)/\q.ownsRow w 105 2 (ya,out.length,yc) out.length (aj out)/\Rest q B (.slice (some (B,off2)) L2.length cap2) L2/\Below w w q/\q.heap.size=w2.heap.size+1)
            ⟨zF w2 _,(((zC w2 w2).alloc (zD _) _).cell (p:=(g,0)) hg2).trans HG.out,HO2.out.alloc _,HR2.out.same (zG _ _ _ (by omega)),hbw2.alloc hbw2.size _,by simp⟩ ?_
          rintro q⟨hr,g0,hoq,hrq,hbq,hqs⟩;obtain⟨_,_,_,_,r4,r5,_,r7,_⟩:=j_ hr;have HR:=aa hr;have HOQ:=aa hoq;have HRQ:=aa hrq;have lg:g<q.heap.size:=by omega
          have lr:w2.heap.size<q.heap.size:=by omega
          have lB:B<q.heap.size:=by omega
          have lw:w.heap.size<=q.heap.size:=by omega
          clear hr hoq hrq HG HO2 HR2 hbw2 hb02 hownB hb01 hqs
          go_region_held3 (fun z=>z.cell? (w2,5)=some (.slice (some (g,0)) 1 sc)/\z.cell? (g,0)=some (.int .i64 k.toNat)/\z.cell? (w2,7)=some (T:V))
            (first
              | go_keep
              | (go_split_ands
                 refine⟨?_,?_,?_⟩
                 · (rw[hgrow.cell_far _ (by simp;omega) (Ne.symm n1)];assumption)
                 · (rw[hgrow.cell_far _ (by simp;omega) (Ne.symm n2)];assumption)
                 · (rw[hgrow.cell_far _ (by simp;omega) (Ne.symm n1)];assumption)))
            ((refine step_append_lies _ (by rfl) _ _ _ (by rfl) w.heap.size 105 i0 _ 2 24 underlying28 hi0 hz0 hz1 hz2 rfl (by omega) (.slice ya out.length yc) out.length (aj out) (by rfl) ((HOQ.out.alloc _).drew)
                ⟨q.heap.size,0,none⟩ 1 1 [.int .i64 k.toNat,.string T] (by rfl) (by rfl) (World.news_of_block (cs:=#[.int .i64 k.toNat,.string T]) (t:=105) (fr:=(0,0)) (zF q _)) (by simp[Value.oneCell'])
                (by omega) (by unfold maxLen;omega) (by omega) (by simp;omega) (q.heap.size+1) (by simp) ?_;intro gg cap3 w3 hown3 hgrow hat hlt))
          have hr3:=(hgrow.block w2.heap.size (by simp;omega) (Ne.symm n1)).trans ((zG q _ _ lr).trans HR.out);have hB3:w3.heap[B]?=q.heap[B]?:=(hgrow.block B (by simp;omega) (Ne.symm n3)).trans (zG q _ _ lB);have hv3:=HRQ.out.same hB3;have hbw3:Below w.heap.size w w3:=((hbq.alloc lw _).drew).grown hgrow (by simp;omega) (fun p hp=>(World.ownsRow.lt HOQ.out p hp).1);have hoc:aj out++[.int .i64 k.toNat,.string T]=aj (out++[⟨(k.toNat:Int),T⟩]):=by rw[bV];rfl
          rw[hoc]at hown3;have hol:out.length+1=(out++[(⟨(k.toNat:Int),T⟩:Op.Opt)]).length:=by simp
          have hown3':w3.ownsRow w.heap.size 105 2 (.slice (some ⟨gg,0,none⟩) (out++[(⟨(k.toNat:Int),T⟩:Op.Opt)]).length cap3) (out++[(⟨(k.toNat:Int),T⟩:Op.Opt)]).length (aj (out++[⟨(k.toNat:Int),T⟩])):=by rw[<- hol];exact hown3
          have C:=aa (nm _ _ w3 (by rw[<- hol];unfold maxLen;omega) (HoldsO.own hown3'));have hl20:out.length+1<=21:=by omega
          generalize hNO:out++[(⟨(k.toNat:Int),T⟩:Op.Opt)]=NO at*;rw[<- hol]at C;have HO3:=aa hown3';have HV3:=aa hv3;have HR3:=aa hr3;have HOL:=aa hol;have hl3:w2.heap.size<w3.heap.size:=(ge.1 hr3).1;have hB3l:B<w3.heap.size:=by omega
          clear hown3 hown3' hgrow hat hr3 hB3 hv3 hoc HRQ HOQ HR r4 r5 r7 g0 n1 n2 n3 HRT hol;cases hrt2:Op.right NO
          . have hres:RES=none:=by rw[<- uh HAC2,Op.acc_wrong L2 hrt2]
            rw[hrt2]at C;clear hrt2 HAC2;go_wp2_with (first|(go_at_call 130;refine C.out.mono ?_;rintro e w4⟨rfl,hb4⟩))
            go_ret2
            exact Or.inl ⟨hres,rfl,hbw3.trans (hb4.mono hbw3.size)⟩
          . rw[hrt2]at C
            have HRT:=aa hrt2;clear hrt2;go_wp2_with (first|(go_at_call 130;refine C.out.mono ?_;rintro e w4⟨rfl,hb4⟩;obtain⟨_,_,_,_,r4,_,_,_,_⟩:=j_ ((hb4.block w2 hl3).trans HR3.out)))
            go_roundw
            case rel =>
              refine⟨L2,NO,⟨_,_,rfl⟩,HV3.out.same (hb4.block B hB3l),by omega,⟨some (gg,0),cap3,by rw[uh HOL]⟩,?_,uh HRT,uh HAC2,hbw3.trans (hb4.mono hbw3.size)⟩;rw[uh HOL];exact aY HO3.out fun p _ hp=>hb4.block p hp
            case measure =>
              simp[FU];omega
end Go.Proofs.YtjdgiimfpkideaaGreatDoor
