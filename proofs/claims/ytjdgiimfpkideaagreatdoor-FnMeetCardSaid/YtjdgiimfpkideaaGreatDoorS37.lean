/- FmC MtY MtK MtL -/
import Derived.Test.YtjdgiimfpkideaaGreatDoorS35
import Derived.Test.YtjdgiimfpkideaaGreatDoorS36
import Derived.RangeFuncBound
set_option maxHeartbeats 8000000
set_option maxRecDepth 100000
namespace Go.Proofs.YtjdgiimfpkideaaGreatDoor
open Go.RowKit Go.Proofs.Tryz
variable {n l B base C1 C2 cnt:Nat} {x:Cf} {W w W' W'':World} {cs:Array Value} {va vb va' vb' vc vd:Value} {s':Sd} {u m:Mw} {p:Op.Pk} {r:List Op.Pk}
def jD(x:Cf):List Op.Opt:=jZ x.m x.a x.g x.p x.c x.d 6
theorem bt(z:Int):(UInt8.ofNat z.toNat).toNat=z.toNat%256:=by simp
theorem B_:da (fu 4).data.toList=4:=by decide
theorem BE:da (fu 2).data.toList=2:=by decide
theorem AL(h:n<65536):da (ji n).data.toList=n:=by
 show 256*(256*0+(UInt8.ofNat ((n:Int) / 256%256).toNat).toNat)+(UInt8.ofNat ((n:Int)%256).toNat).toNat=n
 rw[bt,bt];omega
theorem pj(h:n<4294967296):da (cK n).data.toList=n:=by
 show 256*(256*(256*(256*0+(UInt8.ofNat ((n:Int) / 16777216%256).toNat).toNat)+(UInt8.ofNat ((n:Int) / 65536%256).toNat).toNat)+(UInt8.ofNat ((n:Int) / 256%256).toNat).toNat)+(UInt8.ofNat ((n:Int)%256).toNat).toNat=n
 rw[bt,bt,bt,bt];omega
theorem Ac(x:Cf):jD x=c_ ((x.m:Int) != 300) 1 (ji x.m)++(c_ ((x.a:Int) != 4294967295) 2 (cK x.a)++(c_ ((x.g:Int) != 0) 5 (cK x.g)++(c_ x.p 7 ⟨#[]⟩++(c_ x.c 8 ⟨#[]⟩++c_ x.d 9 (fu 4))))):=by
 simp[jD,jZ,eZ]
theorem Ao{b:Bool}{k:Int}{t:ByteArray}{o:Op.Opt}(h:o∈c_ b k t):o=⟨k,t⟩:=by
 unfold c_ at h;split at h
 .simpa using h
 .simp at h
theorem BF(b:Bool)(k:Int)(t:ByteArray):(c_ b k t).Pairwise fun x y=>x.kind<y.kind:=by
 unfold c_;split
 .exact List.pairwise_singleton _ _
 .exact List.Pairwise.nil
theorem Ea(x:Cf):(jD x).Pairwise fun x y=>x.kind<y.kind:=by
 rw[Ac];have step:∀(b:Bool)(k:Int)(t:ByteArray)(L:List Op.Opt),L.Pairwise (fun x y=>x.kind<y.kind)->(∀o∈L,k<o.kind)->(c_ b k t++L).Pairwise fun x y=>x.kind<y.kind:=by
  intro b k t L h1 h2;refine List.pairwise_append.2 ⟨BF _ _ _,h1,fun u hu v hv=>?_⟩;rw[Ao hu];exact h2 v hv
 have mem:∀(b:Bool)(k j:Int)(t:ByteArray)(L:List Op.Opt),j<k->(∀o∈L,j<o.kind)->∀o∈c_ b k t++L,j<o.kind:=by
  intro b k j t L hj h o ho;rcases List.mem_append.1 ho with ho|ho
  .rw [Ao ho];exact hj
  .exact h o ho
 have m9:∀(j:Int),j<9->∀o∈c_ x.d 9 (fu 4),j<o.kind:=fun j hj o ho=>by rw[Ao ho];exact hj
 refine step _ _ _ _ (step _ _ _ _ (step _ _ _ _ (step _ _ _ _ (step _ _ _ _ (BF _ _ _) ?_) ?_) ?_) ?_) ?_
 .exact m9 _ (by decide)
 .exact mem _ _ _ _ _ (by decide) (m9 _ (by decide))
 .exact mem _ _ _ _ _ (by decide) (mem _ _ _ _ _ (by decide) (m9 _ (by decide)))
 .exact mem _ _ _ _ _ (by decide) (mem _ _ _ _ _ (by decide) (mem _ _ _ _ _ (by decide) (m9 _ (by decide))))
 .exact mem _ _ _ _ _ (by decide) (mem _ _ _ _ _ (by decide) (mem _ _ _ _ _ (by decide) (mem _ _ _ _ _ (by decide) (m9 _ (by decide)))))
theorem Dz(m a g:Nat)(p c d:Bool){L:List Op.Opt}(h:L.Pairwise fun x y=>x.kind<y.kind):b_ m a g p c d L=L.map (one m a g p c d):=by
 unfold b_ dL;refine List.ext_getElem (by simp) fun i h1 h2=>?_
 have hi:i<L.length:=by simpa using h2
 rw[List.getElem_map,List.getElem_map,List.getElem_range,gC _ _ _ _ _ _ _ _ hi];unfold gB;rw[if_neg];intro hw;unfold cQ at hw;obtain⟨y,hy,he⟩:=List.any_eq_true.1 hw;obtain⟨j,hj,rfl⟩:=List.mem_take_iff_getElem.1 hy;have:=List.pairwise_iff_getElem.1 h j i (by omega) hi (by omega)
 have he':L[j].kind=L[i].kind:=by simpa using he
 omega
def Bw(b:Bool)(v:Int × Op.Opt):List (Int × Op.Opt):=if b=true then[v]else[]
theorem Ff(f:Op.Opt->Int × Op.Opt)(b:Bool)(k:Int)(t:ByteArray):(c_ b k t).map f=Bw b (f ⟨k,t⟩):=by
 cases b<;>rfl
structure Ye where
 m:Nat
 a:Nat
 p:Bool
 c:Bool
 d:Bool
def oS(y:Ye)(x:Cf):Bool:=((x.a:Int) != 4294967295)&&((x.a ||| y.a:Nat):Int) != (x.a:Int)
def pG(G:Nat)(x:Cf):Bool:=((x.g:Int) != 0)&&(x.g:Int)==(G:Int)
def pl(y:Ye)(x:Cf):Bool:=x.d && !y.d
def tT(y:Ye)(x:Cf):Bool:=x.p && !y.p||x.c && !y.c
theorem ux(h:sw x=true):64<=x.m/\x.m<=300/\x.a<4294967296/\x.g<4294967296:=by
 simp only[sw,aK,bh,zK,decide_eq_true_eq]at h;omega
theorem DA(y:Ye)(G:Nat)(h:sw x=true):b_ y.m y.a G y.p y.c y.d (jD x) =
  Bw ((x.m:Int) != 300) (2,⟨1,ji x.m⟩)++(Bw ((x.a:Int) != 4294967295) (if oS y x=true then(3,⟨2,cK (x.a ||| y.a)⟩)else(2,⟨2,cK x.a⟩))++(Bw ((x.g:Int) != 0) (if pG G x=true then(3,⟨5,cK (fv G)⟩)else(2,⟨5,cK x.g⟩)) ++
  (Bw x.p (if y.p=true then(2,⟨7,⟨#[]⟩⟩)else(4,⟨7,⟨#[]⟩⟩))++(Bw x.c (if y.c=true then(2,⟨8,⟨#[]⟩⟩)else(4,⟨8,⟨#[]⟩⟩))++Bw x.d (if y.d=true then(2,⟨9,fu 4⟩)else(3,⟨9,fu 2⟩)))))):=by
 obtain⟨h1,h2,h3,h4⟩:=ux h;rw[Dz _ _ _ _ _ _ (Ea x),Ac];simp only[List.map_append,Ff];have e1:one y.m y.a G y.p y.c y.d ⟨1,ji x.m⟩=(2,⟨1,ji x.m⟩):=by
  unfold one;rw[if_pos (show bN 1=some (ji x.m).size by rfl)];have hc:jk y.a G y.p y.c y.d 1 (da (ji x.m).data.toList)=2:=by
   rw[AL (by omega)];show gc (bh 64 300 x.m) 3=2
   rw[show bh 64 300 (x.m:Int)=true by unfold bh;rw[decide_eq_true (by omega),decide_eq_true (by omega)];rfl];rfl
  rw[hc];rfl
 have e2:((x.a:Int) != 4294967295)=true->one y.m y.a G y.p y.c y.d ⟨2,cK x.a⟩=(if oS y x=true then(3,⟨2,cK (x.a ||| y.a)⟩)else(2,⟨2,cK x.a⟩)):=by
  intro ha;unfold one;rw[if_pos (show bN 2=some (cK x.a).size by rfl)];have hc:jk y.a G y.p y.c y.d 2 (da (cK x.a).data.toList)=if oS y x=true then 3 else 2:=by
   rw[pj h3];show gc (((x.a ||| y.a:Nat):Int)==(x.a:Int)) 3=_
   unfold oS;rw[ha,Bool.true_and];cases hq:(((x.a ||| y.a:Nat):Int)==(x.a:Int))
   .have:(((x.a ||| y.a:Nat):Int) != (x.a:Int))=true:=by rw[bne,hq];rfl
    rw[this];rfl
   .have:(((x.a ||| y.a:Nat):Int) != (x.a:Int))=false:=by rw[bne,hq];rfl
    rw[this];rfl
  rw[hc];cases oS y x
  .rfl
  .show (3,(⟨2,nI y.m y.a G 2 (da (cK x.a).data.toList)⟩:Op.Opt))=_
   rw[pj h3];rfl
 have e3:((x.g:Int) != 0)=true->one y.m y.a G y.p y.c y.d ⟨5,cK x.g⟩=(if pG G x=true then(3,⟨5,cK (fv G)⟩)else(2,⟨5,cK x.g⟩)):=by
  intro hg;unfold one;rw[if_pos (show bN 5=some (cK x.g).size by rfl)];have hc:jk y.a G y.p y.c y.d 5 (da (cK x.g).data.toList)=if pG G x=true then 3 else 2:=by
   rw[pj h4];show gc ((x.g:Int) != 0&&(x.g:Int) != (G:Int)) 3=_
   unfold pG;rw[hg,Bool.true_and,Bool.true_and];cases hq:((x.g:Int)==(G:Int))
   .have:((x.g:Int) != (G:Int))=true:=by rw[bne,hq];rfl
    rw[this];rfl
   .have:((x.g:Int) != (G:Int))=false:=by rw[bne,hq];rfl
    rw[this];rfl
  rw[hc];cases pG G x
  .rfl
  .rfl
 have e4:one y.m y.a G y.p y.c y.d ⟨7,⟨#[]⟩⟩=(if y.p=true then(2,⟨7,⟨#[]⟩⟩)else(4,⟨7,⟨#[]⟩⟩)):=by
  cases y.p<;>rfl
 have e5:one y.m y.a G y.p y.c y.d ⟨8,⟨#[]⟩⟩=(if y.c=true then(2,⟨8,⟨#[]⟩⟩)else(4,⟨8,⟨#[]⟩⟩)):=by
  cases y.c<;>rfl
 have e6:one y.m y.a G y.p y.c y.d ⟨9,fu 4⟩=(if y.d=true then(2,⟨9,fu 4⟩)else(3,⟨9,fu 2⟩)):=by
  cases y.d<;>rfl
 rw[e1,e4,e5,e6];have vf:∀(b:Bool)(u v:Int × Op.Opt),(b=true->u=v)->Bw b u=Bw b v:=by
  intro b u v h;cases b
  .rfl
  .rw [h rfl]
 rw[vf _ _ _ e2,vf _ _ _ e3]
abbrev gU(cd:Int):Array Value:=#[.int .i64 0,.int .i64 0,.int .i64 0,.bool false,.bool false,.bool false,.int .i64 0,.int .i64 0,.int .i64 0,.bool false,.bool false,.bool false,.int .i64 0,.int .i64 0,.int .i64 0,.int .i64 0,.int .i64 0,.slice none 0 0,.slice none 0 0,.bool false,.int .i64 0,.int .i64 0,.bool false,.bool false,.bool false,.int .i64 0,.int .i64 0,.bool false,.bool false,.bool false,.int .i64 0,.int .i64 0,.int .i64 0,.bool false,.bool false,.bool false,.int .i64 0,.int .i64 0,.int .i64 0,.bool false,.bool false,.bool false,.int .i64 0,.int .i64 0,.int .i64 0,.int .i64 0,.int .i64 0,.slice none 0 0,.slice none 0 0,.bool false,.int .i64 0,.int .i64 0,.bool false,.bool false,.bool false,.int .i64 0,.int .i64 0,.bool false,.bool false,.bool false,.int .i64 cd]
abbrev cm:Array Value:=gU 0
theorem bf:(prog.info? 34).map (·.size)=some 61:=by kernel_rfl
theorem eI{E:Nat}(h:W.heap[E]?=some (.cells cs 34))(hs:cs.size=61:=by rfl):(loadVar 34 (E,0)).run prog W=.ok (.agg cs) W :=
 run_loadVar_row (P:=prog) _ _ 34 34 cs (0,0) _ h underlying34 rfl (by rw[hs];exact bf)
structure MO where
 a:Sd
 b:Sd
 cd:Int
def kL:Sd:=⟨ag,[],[],[]⟩
def eC(m1 a1 g1:Int)(p1 c1 d1:Bool)(m2 a2 g2:Int)(p2 c2 d2:Bool)(L:List Int)(st:Bool):MO :=
 if 400<L.length then⟨kL,kL,2⟩
 else if aK m1 a1 g1=true/\aK m2 a2 g2=true then⟨(jX m1 a1 g1 p1 c1 d1 m2 a2 g2 p2 c2 d2 L st).a,(jX m1 a1 g1 p1 c1 d1 m2 a2 g2 p2 c2 d2 L st).b,0⟩
 else⟨kL,kL,1⟩
def ye(dj:Bool)(base:Nat)(W:World)(o:MO)(cs:List Value):Prop:=∃ca cb,cs=cV ca cb o.cd/\EnM base W ca o.a/\EnM base W cb o.b/\(dj=true->∀g,kK ca g->¬kK cb g)
def AnP(dj:Bool)(o:MO)(w:World)(e:Ending)(w':World):Prop:=∃cs:List Value,e=.returned (.agg cs.toArray)/\ye dj w w' o cs/\Below w w w'
theorem noB(e:En)(g:Nat):¬kK (aA e () ()).toList g:=fun h=>by
 rcases h with⟨v,e1,hv⟩|⟨v,e1,hv⟩
 .have e':some (Value.slice none 0 0)=some v:=e1;cases e';cases hv
 .have e':some (Value.slice none 0 0)=some v:=e1;cases e';cases hv
theorem iG(e:En)(base:Nat)(W:World)(l:List Op.Pk):EnM base W (aA e () ()).toList ⟨e,[],[],l⟩ :=
 ⟨none,none,0,0,rfl,World.ownsRow_nil _ _ _ _,World.ownsRow_nil _ _ _ _,fun _ hg=>(by cases hg),Nat.zero_le _,Nat.zero_le _⟩
theorem AnP.err{dj:Bool}{w':World}(k:Int)(hb:Below w w w'):AnP dj ⟨kL,kL,k⟩ w (.returned (.agg (gU k))) w' :=
 ⟨(gU k).toList,rfl,⟨(aA ag (.slice none 0 0) (.slice none 0 0)).toList,(aA ag (.slice none 0 0) (.slice none 0 0)).toList,rfl,iG _ _ _ _,iG _ _ _ _,fun _ g _ h2=>noB _ g h2⟩,hb⟩
theorem fR(k:Int):(gU k).all (·.oneCell')=true:=by kernel_rfl
theorem Bm(e1 e2:En)(x1 x2 x3 x4:Option Addr)(n1 n2 n3 n4 y1 y2 y3 y4:Nat)(k:Int):(cV (aA e1 (x1,n1,y1) (x2,n2,y2)).toList (aA e2 (x3,n3,y3) (x4,n4,y4)).toList k).toArray.all (·.oneCell')=true:=by kernel_rfl
theorem gN(e1 e2:En)(v1 v2 v3 v4:Value)(k:Int):(cV (aA e1 v1 v2).toList (aA e2 v3 v4).toList k).toArray.size=61:=by kernel_rfl
structure Mr(w:World)(A:Nat)(cs ds:Array Value)(q:World):Prop where
 a:q.heap[A]?=some (.cells cs 24)
 b:q.heap[A+1]?=some (.cells ds 24)
 z:q.heap[A+1+1]?=some (.cells cm 34)
 l:Below w w q
theorem Mr.step{A:Nat}{ds:Array Value}{q q':World}(h:Mr w A cs ds q)(hb:Below q q q'):Mr w A cs ds q' :=
 ⟨(hb.block _ (ge.1 h.a).1).trans h.a,(hb.block _ (ge.1 h.b).1).trans h.b,(hb.block _ (ge.1 h.z).1).trans h.z,h.l.trans (hb.mono h.l.size)⟩
theorem qX(w:World)(cs ds:Array Value):Mr w w cs ds (((w.alloc (.cells cs 24)).alloc (.cells ds 24)).alloc (.cells cm 34)):=by
 obtain⟨h1,h2,h3,h4⟩:=kh w (.cells cs 24) (.cells ds 24) (.cells cm 34);exact⟨h1,h2,h3,h4⟩
structure Mt(base:Nat)(W:World)(B:Nat)(m:Mw)(ca:List Value)(va:Value)(cb:List Value)(vb:Value):Prop where
 row:W.heap[B]?=some (.cells (ca++[va]++cb++[vb]++[Value.int .i64 m.now]).toArray 66)
 ea:EnM base W ca m.a
 eb:EnM base W cb m.b
 xx:∀g,kK ca g->¬kK cb g
 ha:HoldsK W base va m.a.ln
 hb:HoldsK W base vb m.b.ln
 la:m.a.ln.length<=40
 lb:m.b.ln.length<=40
 sp:∀g,va.ownBlock=some g->vb.ownBlock≠some g
 lo:Lo base W
 bB:base<=B
def MW(base:Nat)(B:Nat)(m:Mw)(W:World)(va vb:Value):Prop:=∃ca cb,Mt base W B m ca va cb vb
structure Fw(l B:Nat)(va vb va' vb':Value)(W W':World):Prop where
 os:W'.os=W.os
 tape:W'.tape=W.tape
 output:W'.output=W.output
 size:W.heap.size<=W'.heap.size
 same:∀k,k<W.heap.size->k≠B->k≠l->va.ownBlock≠some k->vb.ownBlock≠some k->W'.heap[k]?=W.heap[k]?
 own:∀g,(va'.ownBlock=some g\/vb'.ownBlock=some g)->(va.ownBlock=some g\/vb.ownBlock=some g)\/W.heap.size<=g
theorem Fw.trans(h:Fw l B va vb va' vb' W W')(k:Fw l B va' vb' vc vd W' W''):Fw l B va vb vc vd W W'' :=
 ⟨k.os.trans h.os,k.tape.trans h.tape,k.output.trans h.output,zE h.size k.size,fun i hi h1 h0 h2 h3=>(k.same i (Nat.lt_of_lt_of_le hi h.size) h1 h0 (fun e=>(h.own i (Or.inl e)).elim (fun e=>e.elim h2 h3) (fun e=>by omega)) (fun e=>(h.own i (Or.inr e)).elim (fun e=>e.elim h2 h3) (fun e=>by omega))).trans (h.same i hi h1 h0 h2 h3),
  fun g hg=>(k.own g hg).elim (h.own g) (fun e=>Or.inr (zE h.size e))⟩
theorem Fw.of_below(h:Below W W W'):Fw l B va vb va vb W W' :=
 ⟨h.os,h.tape,h.output,h.size,fun k hk _ _ _ _=>h.block k hk,fun _ hg=>Or.inl hg⟩
theorem Fw.refl(l B:Nat)(va vb:Value)(W:World):Fw l B va vb va vb W W:=Fw.of_below (zC _ _)
theorem Fw.a(vb:Value)(f:Fr B va va' W W'):Fw l B va vb va' vb W W' :=
 ⟨f.os,f.tape,f.output,f.size,fun k hk h1 _ h2 _=>f.same k hk h1 h2,fun g hg=>hg.elim (fun e=>(f.own g e).imp Or.inl id) (fun e=>Or.inl (Or.inr e))⟩
theorem Fw.b(va:Value)(f:Fr B vb vb' W W'):Fw l B va vb va vb' W W' :=
 ⟨f.os,f.tape,f.output,f.size,fun k hk h1 _ _ h3=>f.same k hk h1 h3,fun g hg=>hg.elim (fun e=>Or.inl (Or.inl e)) (fun e=>(f.own g e).imp Or.inr id)⟩
theorem Fw.put(h:Fw l B va vb va' vb' W W')(o:Obj):Fw l B va vb va' vb' W (W'.putObj l o) :=
 ⟨h.os,h.tape,h.output,by rw[World.putObj_size];exact h.size,fun k hk h1 h0 h2 h3=>(World.putObj_heap_other h0).trans (h.same k hk h1 h0 h2 h3),h.own⟩
section
variable {base:Nat} {W W':World} {B l:Nat} {m:Mw} {ca cb:List Value} {va vb va' vb':Value}
theorem Mt.sa(h:Mt base W B m ca va cb vb):Sl base 66 W B [] (cb++[vb]++[Value.int .i64 m.now]) m.a ca va :=
 ⟨⟨by rw[h.row];simp,h.ha,h.la,h.lo.le,by decide⟩,h.ea,by decide⟩
theorem Mt.sb(h:Mt base W B m ca va cb vb):Sl base 66 W B (ca++[va]) [Value.int .i64 m.now] m.b cb vb :=
 ⟨⟨by rw[h.row],h.hb,h.lb,h.lo.le,by decide⟩,h.eb,by decide⟩
theorem Mt.lenA(h:Mt base W B m ca va cb vb):(ca++[va]).length=31:=by rw[List.length_append,h.ea.len];rfl
theorem Mt.lenB(h:Mt base W B m ca va cb vb):(ca++[va]++cb).length=61:=by simp[h.ea.len,h.eb.len]
theorem Mt.setA(h:Mt base W B m ca va cb vb){ca':List Value}(hs:Sl base 66 W' B [] (cb++[vb]++[Value.int .i64 m.now]) s' ca' va')(f:Fr B va va' W W')(nb:Nb9 W ca ca'):Mt base W' B ⟨s',m.b,m.now⟩ ca' va' cb vb:=by
 have kb:∀g,vb.ownBlock=some g->W'.heap[g]?=W.heap[g]?:=fun g hg=>f.same g (h.sb.wr.ownB g hg).2.2.1 (h.sb.wr.ownB g hg).1 (fun e=>h.sp g e hg)
 refine⟨?_,hs.en,h.eb.keep (h.sa.keepO f),fun g hg e=>(nb g hg).elim (fun e1=>h.xx g e1 e) (fun e1=>by have:=(h.eb.blk g e).2;omega),hs.wr.hk,h.hb.keep fun g _ hg _ _=>kb g hg,hs.wr.le,h.lb,fun g hg e=>?_,h.lo.fr h.sa h.bB f,h.bB⟩
 .have:=hs.wr.row
  rw[this];simp
 .rcases f.own g hg with e1|e1
  .exact h.sp g e1 e
  .have:=(h.sb.wr.ownB g e).2.2.1;omega
theorem Mt.setB(h:Mt base W B m ca va cb vb){cb':List Value}(hs:Sl base 66 W' B (ca++[va]) [Value.int .i64 m.now] s' cb' vb')(f:Fr B vb vb' W W')(nb:Nb9 W cb cb'):Mt base W' B ⟨m.a,s',m.now⟩ ca va cb' vb':=by
 have kb:∀g,va.ownBlock=some g->W'.heap[g]?=W.heap[g]?:=fun g hg=>f.same g (h.sa.wr.ownB g hg).2.2.1 (h.sa.wr.ownB g hg).1 (fun e=>h.sp g hg e)
 refine⟨?_,h.ea.keep (h.sb.keepO f),hs.en,fun g hg e=>(nb g e).elim (fun e1=>h.xx g hg e1) (fun e1=>by have:=(h.ea.blk g hg).2;omega),h.ha.keep fun g _ hg _ _=>kb g hg,hs.wr.hk,h.la,hs.wr.le,fun g hg e=>?_,h.lo.fr h.sb h.bB f,h.bB⟩
 .have:=hs.wr.row
  rw[this]
 .rcases f.own g e with e1|e1
  .exact h.sp g hg e1
  .have:=(h.sa.wr.ownB g hg).2.2.1;omega
theorem Mt.below(h:Mt base W B m ca va cb vb)(hb:Below W W W'):Mt base W' B m ca va cb vb :=
 h.setA (h.sa.below hb) (Fr.of_below hb) (Nb9.refl _ _)
theorem Mt.put(h:Mt base W B m ca va cb vb){o0:Obj}(hl:W.heap[l]?=some o0)(ho:o0.isCells=false)(hb:base<=l)(o:Obj):Mt base (W.putObj l o) B m ca va cb vb:=by
 have ne:∀(g:Nat)(cur:Array Value)(T:TypeId),W.heap[g]?=some (.cells cur T)->(W.putObj l o).heap[g]?=W.heap[g]?:=fun g cur T hg=>World.putObj_heap_other fun e=>by rw[e,hl]at hg;cases hg;cases ho
 refine⟨(ne _ _ _ h.row).trans h.row,h.ea.keep fun g cur hg=>ne g cur _ hg,h.eb.keep fun g cur hg=>ne g cur _ hg,h.xx,h.ha.keep fun g cur _ _ hg=>ne g cur _ hg,h.hb.keep fun g cur _ _ hg=>ne g cur _ hg,h.la,h.lb,h.sp,h.lo.step ⟨rfl,rfl,rfl,by rw[World.putObj_size];exact zD _,fun k hk=>World.putObj_heap_other (by omega)⟩,h.bB⟩
theorem Mt.time(h:Mt base W B m ca va cb vb)(t:Int):Mt base (W.setCell (B,62) t) B ⟨m.a,m.b,t⟩ ca va cb vb/\Fw l B va vb va vb W (W.setCell (B,62) t):=by
 have r:W.heap[B]?=some (.cells ((ca++[va]++cb++[vb])++[Value.int .i64 m.now]++[]).toArray 66):=by rw[List.append_nil];exact h.row
 have hx:=cH [Value.int .i64 m.now] [Value.int .i64 t] _ _ W r rfl;have e:(ca++[va]++cb++[vb]).length=62:=by simp[h.ea.len,h.eb.len]
 rw[e,List.append_nil]at hx;have ot:∀g,g≠B->(W.setCell (B,62) t).heap[g]?=W.heap[g]?:=fun g hg=>heap_setCell_other _ _ _ _ hg
 have hT:∀(g:Nat)(cur:Array Value)(T:TypeId),T≠66->W.heap[g]?=some (.cells cur T)->g≠B:=fun g cur T hT hg e=>by
  rw[e,h.row]at hg;injection hg with hg;injection hg with _ hg;exact hT hg.symm
 have hbl:=(zC base W).setCell (p:=(B,62)) h.bB t;refine⟨⟨hx,h.ea.keep fun g cur hg=>ot g (hT g cur _ (by decide) hg),h.eb.keep fun g cur hg=>ot g (hT g cur _ (by decide) hg),h.xx,h.ha.keep fun g cur _ _ hg=>ot g (hT g cur _ (by decide) hg),h.hb.keep fun g cur _ _ hg=>ot g (hT g cur _ (by decide) hg),h.la,h.lb,h.sp,h.lo.step hbl,h.bB⟩,⟨hbl.os,hbl.tape,hbl.output,hbl.size,fun k _ h1 _ _ _=>ot k h1,fun _ hg=>Or.inl hg⟩⟩
theorem Mt.now(h:Mt base W B m ca va cb vb):W.cell? (B,62)=some (.int .i64 m.now)/\W.frozen? (B,62)=false:=by
 have r:W.heap[B]?=some (.cells ((ca++[va]++cb++[vb])++[Value.int .i64 m.now]++[]).toArray 66):=by rw[List.append_nil];exact h.row
 have hx:=bI r;have e:(ca++[va]++cb++[vb]).length=62:=by simp[h.ea.len,h.eb.len]
 rw[e]at hx;exact⟨hx,aX h.row _⟩
end
section
open Go.RowKit Go.Shelf
attribute [local go_sem] Oper.semAt_some
def FW(B:Nat)(va vb va' vb':Value)(W W':World):Prop:=∀l,Fw l B va vb va' vb' W W'
theorem FW.trans(h:FW B va vb va' vb' W W')(k:FW B va' vb' vc vd W' W''):FW B va vb vc vd W W'':=fun l=>(h l).trans (k l)
theorem FW.of_below(h:Below W W W'):FW B va vb va vb W W':=fun _=>Fw.of_below h
theorem Fw.all(h:Fw l B va vb va' vb' W W')(hl:W.heap.size<=l):FW B va vb va' vb' W W':=fun _ =>
 ⟨h.os,h.tape,h.output,h.size,fun k hk h1 _ h2 h3=>h.same k hk h1 (by omega) h2 h3,h.own⟩
theorem Fr.keeps{v v':Value}(f:Fr B v v' W W')(hB:∃c T,W.heap[B]?=some (.cells c T))(hv:∀g,v.ownBlock=some g->∃c T,W.heap[g]?=some (.cells c T)):KeepsFrom n W W' :=
 ⟨f.size,fun k o _ hk ho=>(f.same k (ge.1 hk).1 (fun e=>by
  obtain⟨c,T,h⟩:=hB;rw[e,h]at hk;cases hk;cases ho) (fun e=>by
  obtain⟨c,T,h⟩:=hv k e;rw[h]at hk;cases hk;cases ho)).trans hk⟩
theorem eD(h:Below W W W'):KeepsFrom n W W':=⟨h.size,fun k _ _ hk _=>(h.block k (ge.1 hk).1).trans hk⟩
theorem fG(m:Mw):∀i,i<=m.a.ln.length->(au aI i m).a.ln=m.a.ln.drop i/\(au aI i m).now=m.now
 | 0,_=>⟨rfl,rfl⟩
 | i+1,hi=>by
  obtain⟨h1,h2⟩:=fG m i (by omega);have h3:m.a.ln.drop i=m.a.ln[i]::m.a.ln.drop (i+1):=List.drop_eq_getElem_cons (by omega);rw[h3]at h1;show(aI (au aI i m)).a.ln=_/\(aI (au aI i m)).now=_
  generalize au aI i m=u at*;unfold aI;rw[h1];exact⟨rfl,h2⟩
theorem BG(e:u.a.ln=p::r):aI u=⟨dN u.a r,fk u.b p u.now,u.now⟩:=by
 unfold aI;rw[e]
theorem rj(h:MW base B m W va vb)(b1:W.heap[C1]?=some (.cells #[.int .i64 (cnt:Int)] 3))(b2:W.heap[C2]?=some (.cells #[(B,30)] 111)):Calls prog 46 #[(B,31),.func (.func 88) #[] #[(C1,0),(C2,0)],m.now] W fun e W'=>e=.returned (.tuple #[])/\∃va' vb',MW base B (au aI (min cnt m.a.ln.length) m) W' va' vb'/\FW B va vb va' vb' W W':=by
 have hbW:Below W W ((W.alloc (.cells #[(B,31)] 81)).alloc (.cells #[m.now] 2)):=((zC _ _).alloc (zD _) _).alloc (by simp) _;have s2:=zF (W.alloc (.cells #[(B,31)] 81)) (.cells #[m.now] 2);rw[World.size_alloc]at s2;have s1:=(zG (W.alloc (.cells #[(B,31)] 81)) (.cells #[m.now] 2) W (by simp)).trans (zF W (.cells #[(B,31)] 81));obtain⟨ca,cb,hM⟩:=h;have hM2:=hM.below hbW;have b1':=(hbW.block C1 (ge.1 b1).1).trans b1;have b2':=(hbW.block C2 (ge.1 b2).1).trans b2;clear b1 b2 hM;refine(callsIn_wide (n:=3)).1 ?_;refine callsIn_of_wp_marks func46 rfl trivial ?_ rfl;simp only[ntmps46,List.size_toArray,List.length_cons,List.length_nil,Nat.reduceAdd,Nat.reduceSub,Array.replicate_succ,Array.replicate_zero,List.push_toArray,List.append_toArray,List.nil_append,List.cons_append];gi_wp2
 generalize hWW:(W.alloc (.cells #[(B,31)] 81)).alloc (.cells #[m.now] 2)=W2 at*;generalize hs1:W.heap.size=S1 at*;refine lZ (gf:=88) (lb:=#[(C1,0),(C2,0)]) rfl (enters_of func88 (by kernel_rfl) rfl) (J:=fun y=>∃va' vb',MW base B (au aI (min cnt m.a.ln.length) m) y va' vb'/\FW B va vb va' vb' W2 y) ?st ?it ?dn
 case st =>
  rintro V l r o hl hV⟨va',vb',⟨ca',cb',hM'⟩,hf⟩;exact⟨va',vb',⟨ca',cb',hM'.put hV rfl (zE hM2.lo.le hl) _⟩,((hf l).put _).all hl⟩
 case dn =>
  rintro D y hD⟨va',vb',⟨ca',cb',hM'⟩,hf⟩hdf;have hfin:Hid (∃va' vb',MW base B (au aI (min cnt m.a.ln.length) m) (y.putObj D (.deferred none)) va' vb'/\FW B va vb va' vb' W (y.putObj D (.deferred none))):=aa (by
   refine⟨va',vb',⟨ca',cb',hM'.put hdf rfl (zE hM2.lo.le hD) _⟩,?_⟩;have h1:=((hf D).put (.deferred none)).all hD;rw[<- hs1]at hbW;exact(FW.of_below hbW).trans h1)
  clear hM' hf;gi_wp2
  refine⟨by simp,.inl ⟨_,_,rfl,run_takeDeferred hdf,?_⟩⟩;exact⟨_,results_none rfl _ _ _,rfl,uh hfin⟩
 case it =>
  intro fn l D W1 R hR hl hD hb1 hz1 hrec;have hnB:∀(g:Nat)(o:Obj),W2.heap[g]?=some o->(∀c,o≠.cells c 66)->g≠B:=fun g o hg ho e=>by
   rw[e,hM2.row]at hg;cases hg;exact ho _ rfl
  have hnO:∀(g:Nat)(o:Obj),W2.heap[g]?=some o->(∀c,o≠.cells c 85)->va.ownBlock≠some g/\vb.ownBlock≠some g:=fun g o hg ho=>by
   refine⟨fun e=>?_,fun e=>?_⟩
   .obtain ⟨_,_,_,c,h2⟩:=hM2.sa.wr.ownB g e;rw[hg]at h2;cases h2;exact ho _ rfl
   .obtain ⟨_,_,_,c,h2⟩:=hM2.sb.wr.ownB g e;rw[hg]at h2;cases h2;exact ho _ rfl
  have kp:∀(g:Nat)(x:Value)(T:TypeId),T≠66->T≠85->W2.heap[g]?=some (.cells #[x] T)->∀y va' vb',Fw l B va vb va' vb' W2 y->y.heap[g]?=some (.cells #[x] T):=fun g x T t1 t2 hg y va' vb' hf =>
   (hf.same g (ge.1 hg).1 (hnB g _ hg (fun c e=>by cases e;exact t1 rfl)) (by have:=(ge.1 hg).1;omega) (hnO g _ hg (fun c e=>by cases e;exact t2 rfl)).1 (hnO g _ hg (fun c e=>by cases e;exact t2 rfl)).2).trans hg
  refine CallsIn.mono (rh (base:=base) (T:=66) (l:=l) (B:=B) (k:=30) (C1:=C1) (C2:=C2) (m0:=m.a.ln.length) (cnt:=cnt) (W:=W1) (n:=2) (by omega) (fun i y=>i<=m.a.ln.length/\RecAt l R D .ready y/\∃va' vb',MW base B (au aI i m) y va' vb'/\Fw l B va vb va' vb' W2 y) ?hI ?hdr ?h0) ?fin
  case fin =>
   rintro e y⟨hv,_,hr,va',vb',h1,h2⟩;exact⟨hv,⟨va',vb',h1,h2.all hl⟩,hr⟩
  case h0=>exact⟨Nat.zero_le _,hrec,va,vb,⟨ca,cb,hM2.below hb1⟩,Fw.of_below hb1⟩
  case hdr =>
   rintro i y⟨h1,h2,va',vb',⟨ca',cb',hM'⟩,hf⟩;exact⟨h1,⟨h2.lp,h2.df⟩,va',vb',⟨ca',cb',hM'.below (zC _ _).drew⟩,hf.trans (Fw.of_below (zC _ _).drew)⟩
  case hI =>
   rintro i y⟨hi,hr,va',vb',⟨ca',cb',hM'⟩,hf⟩;obtain⟨hln,hnow⟩:=fG m i hi;refine⟨kp C1 _ _ (by decide) (by decide) b1' y va' vb' hf,kp C2 _ _ (by decide) (by decide) b2' y va' vb' hf,_,_,va',(au aI i m).a.ln,hM'.ea.len,hM'.sa.wr,by rw[hln,List.length_drop];omega,?_⟩;intro p r z v2 eL hWz hfz;subst hR;have hcB:∃c T,y.heap[B]?=some (.cells c T):=⟨_,_,hM'.row⟩;have hrz:RecAt l _ D .ready z:=hr.keep (hfz.keeps (n:=W2.heap.size) hcB (fun g hg=>(hM'.sa.wr.ownB g hg).2.2.2.imp fun c h=>⟨_,h⟩)) hl hD;have hMz:=hM'.setA (hM'.sa.line hfz hWz) hfz (Nb9.refl _ _);have hfZ:Fw l B va vb v2 vb' W2 z:=hf.trans (Fw.a _ hfz);have h1q:i+1<=m.a.ln.length:=by
    have:=congrArg List.length hln
    rw[eL,List.length_drop,List.length_cons]at this;omega
   have hst:au aI (i+1) m=⟨dN (au aI i m).a r,fk (au aI i m).b p (au aI i m).now,(au aI i m).now⟩:=BG eL;refine YieldAt.mono (lX (B:=W2.heap.size) (J:=fun y'=>i+1<=m.a.ln.length/\∃va3 vb3,MW base B (au aI (i+1) m) y' va3 vb3/\Fw l B va vb va3 vb3 W2 y') hrz rfl hl hD ?hJ ?wk) ?mo
   case mo =>
    rintro e z'⟨rfl,⟨h1,h2⟩,h3⟩;exact⟨rfl,h1,h3,h2⟩
   case hJ =>
    rintro V r' o hV⟨h1,va3,vb3,⟨ca3,cb3,hM3⟩,hf3⟩;exact⟨h1,va3,vb3,⟨ca3,cb3,hM3.put hV rfl (zE hM2.lo.le hl) _⟩,hf3.put _⟩
   case wk =>
    have hb4:Below z z (z.alloc (.cells #[p.code,p.id,p.data] 85)):=(zC _ _).alloc (zD _) _;have hN4:=zF z (.cells #[p.code,p.id,p.data] 85);have hlz:l<z.heap.size:=(ge.1 hrz.lp).1;have hl4:=(hb4.block l hlz).trans hrz.lp;have HH:Hid (∀o:Obj,∃ca3 va3 cb3 vb3,Mt base ((z.alloc (.cells #[p.code,p.id,p.data] 85)).putObj l o) B ⟨dN (au aI i m).a r,(au aI i m).b,(au aI i m).now⟩ ca3 va3 cb3 vb3/\Fw l B va vb va3 vb3 W2 ((z.alloc (.cells #[p.code,p.id,p.data] 85)).putObj l o)/\((z.alloc (.cells #[p.code,p.id,p.data] 85)).putObj l o).heap[z.heap.size]?=some (.cells #[p.code,p.id,p.data] 85)/\∀g,(va3.ownBlock=some g\/vb3.ownBlock=some g)->g<z.heap.size):=aa fun o =>
     ⟨_,_,_,_,(hMz.below hb4).put hl4 rfl (zE hM2.lo.le hl) o,(hfZ.trans (Fw.of_below hb4)).put o,(World.putObj_heap_other (by omega)).trans hN4,fun g hg=>hg.elim (fun e=>(hMz.sa.wr.ownB g e).2.2.1) (fun e=>(hMz.sb.wr.ownB g e).2.2.1)⟩
    have HK9:Hid (KeepsFrom W2 z (z.alloc (.cells #[p.code,p.id,p.data] 85))):=aa (eD hb4);have HS1:=aa (kp S1 _ _ (by decide) (by decide) s1);have HS2:=aa (kp (S1+1) _ _ (by decide) (by decide) s2);rw[<- hnow]at HS2;have HST:=aa hst;clear hb4 hN4 hl4 hst hMz hfZ hWz hfz hM' hf hrz hr hrec kp hnB hnO hcB hM2 hb1 b1' b2' s1 s2 hbW hWW hz1;gi_wp2
    refine⟨uh HK9,?_⟩;intro W3 hW3 hr3;obtain⟨ca3,va3,cb3,vb3,hM3,hf3,hN3,hown⟩:=uh HH (.loop (fF fn _ _ _ _ D .busy));rw[<- hW3]at hM3 hf3 hN3;clear HH HK9 hW3 hr3;have g1:=gP (uh HS1 _ _ _ hf3);have g2:=gP (uh HS2 _ _ _ hf3);have hd3:Below W3 W3 W3.drew:=(zC _ _).drew;have hM4:=hM3.below hd3;have hlx:=hM3.lenA;have rg:W3.drew.rangeAt B 31 cb3:=by
     have:=aS hM4.sb.row
     rw[hlx]at this;exact this
    have hl9:=hM4.eb.len;have CH:=aa (tK hM4.eb hM4.lo p (au aI i m).now);have CF:=aa fun q cl vs (hA:AnE W3.drew.heap.size q (bn (au aI i m).b.e (au aI i m).b.F1 (au aI i m).b.F2 p (au aI i m).now) cl vs) (hfv:∀g,vs.ownBlock=some g->W3.drew.heap.size<=g) (hbq:Below W3.drew.heap.size W3.drew q)=>th hM4.sb (by decide) (iF _ _ _ _ _) hA hfv hbq
    rw[hlx]at CF;have hSm:∀q,Below W3 W3 q->q.cell? (S1,0)=some (.pointer (some (B,31)))/\q.cell? (S1+1,0)=some (.int .i64 (au aI i m).now)/\q.cell? (z,0)=some (.int .i64 p.code)/\q.cell? (z,1)=some (.int .i64 p.id)/\q.cell? (z,2)=some (.string p.data):=fun q hq=>by
     have h3:=(hq.block _ (ge.1 hN3).1).trans hN3;exact⟨(hq.cell (p:=(S1,0)) (World.block_lt_of_cell? _ _ g1)).trans g1,(hq.cell (p:=(S1+1,0)) (World.block_lt_of_cell? _ _ g2)).trans g2,cv h3,cv h3,cv h3⟩
    have HSm:=aa hSm;have HFIN:Hid (∀W' cb' v3,Sl base 66 W' B (ca3++[va3]) [Value.int .i64 (au aI i m).now] (fk (au aI i m).b p (au aI i m).now) cb' v3->Fr B vb3 v3 W3.drew W'->Nb9 W3.drew cb3 cb'->(W'.cell? (S1,0)=some (.pointer (some (B,31)))/\W'.cell? (S1+1,0)=some (.int .i64 (au aI i m).now)/\W'.cell? (z,0)=some (.int .i64 p.code)/\W'.cell? (z,1)=some (.int .i64 p.id)/\W'.cell? (z,2)=some (p.data:V))/\KeepsFrom W2 W3 W'/\∃va3 vb3,MW base B (au aI (i+1) m) W' va3 vb3/\Fw l B va vb va3 vb3 W2 W'):=aa fun W' cb' v3 hs hfr hnb=>by
     have hN0:W3.drew.heap[z.heap.size]?=_:=hN3;have e3:W'.heap[z.heap.size]?=_:=(hfr.same _ (ge.1 hN0).1 (fun e=>by
      rw[e,hM4.row]at hN0;injection hN0 with e1;injection e1 with _ e1;exact absurd e1 (by decide)) (fun e=>by have:=hown _ (Or.inr e);omega)).trans hN0
     have kx:∀(g:Nat)(x:Value)(T:TypeId),T≠66->T≠85->W3.heap[g]?=some (.cells #[x] T)->W'.cell? (g,0)=some x:=fun g x T t1 t2 hg=>by
      have hg0:W3.drew.heap[g]?=_:=hg;have:=(hfr.same g (ge.1 hg0).1 (fun e=>by
       rw[e,hM4.row]at hg0;injection hg0 with e1;injection e1 with _ e1;exact t1 e1.symm) (fun e=>by
       obtain⟨_,_,_,c,h2⟩:=hM4.sb.wr.ownB g e;rw[hg0]at h2;cases h2;exact t2 rfl)).trans hg0
      exact gP this
     refine⟨⟨kx S1 _ _ (by decide) (by decide) (uh HS1 _ _ _ hf3),kx (S1+1) _ _ (by decide) (by decide) (uh HS2 _ _ _ hf3),cv e3,cv e3,cv e3⟩,(eD hd3).trans (hfr.keeps ⟨_,_,hM4.row⟩ (fun g hg=>(hM4.sb.wr.ownB g hg).2.2.2.imp fun c h=>⟨_,h⟩)),va3,v3,?_,hf3.trans ((Fw.of_below hd3).trans (Fw.b _ hfr))⟩;rw[uh HST];exact⟨_,_,hM4.setB hs hfr hnb⟩
    clear hSm hd3 hM4 hM3 hf3 g1 g2 hN3 HST HS1 HS2 hown hlx;generalize z.heap.size=N at*;unfold fk at HFIN;generalize bn (au aI i m).b.e (au aI i m).b.F1 (au aI i m).b.F2 p (au aI i m).now=EO9 at*;rw[hnow]at CH CF HSm HFIN;clear hnow;obtain⟨pc,pi,pd⟩:=p;dsimp only at CH HSm HFIN;gi_wp2
    refine gO (S:=fun w=>w.cell? (S1,0)=some (.pointer (some (B,31)))/\w.cell? (S1+1,0)=some (.int .i64 m.now)/\w.cell? (N,0)=some (.int .i64 pc)/\w.cell? (N,1)=some (.int .i64 pi)/\w.cell? (N,2)=some (pd:V)) (by kernel_rfl) (by kernel_rfl) ?_ ?_
    .rintro ⟨a,w,h⟩;cases h.1
    have hS0:=uh HSm W3.drew (zC _ _).drew;refine tq 0 1 2 3 ?_;refine tt 5 6 ?_;refine r3 4 fun K hK=>?_
    rw[if_pos (by rfl)];refine wp_load_mid 32 (.tmp 12) rfl B 31 rfl cb3 _ rg underlying32 rfl (by rw[hl9];exact aL) ?_;refine ro hK hS0 fun _=>?_
    clear hK K;refine r3 7 fun K hK=>?_
    go_simp;refine CH.out.mono ?_;rintro r q⟨cl,vs,rfl,hA,hfv,hbq⟩;have hS1:=uh HSm q ((zC W3 W3).drew.trans hbq);have HQ:=aa (uh CF q cl vs hA hfv hbq);clear CH CF hA hfv hbq hS0;refine ro hK hS1 fun _=>?_
    clear hK K;refine r3 8 fun K hK=>?_
    go_simp;refine HQ.out.mono ?_;rintro e W'⟨rfl,cb',v3,hs,hfr,hnb⟩;obtain⟨hS2,hk9,hj9⟩:=uh HFIN W' cb' v3 hs hfr hnb;refine ro hK hS2 fun _=>?_
    clear hK K;refine dn ?_ _;exact⟨rfl,hk9,h1q,hj9⟩
theorem fH(m:Mw):∀i,i<=m.b.ln.length->(au aN i m).b.ln=m.b.ln.drop i/\(au aN i m).now=m.now
 | 0,_=>⟨rfl,rfl⟩
 | i+1,hi=>by
  obtain⟨h1,h2⟩:=fH m i (by omega);have h3:m.b.ln.drop i=m.b.ln[i]::m.b.ln.drop (i+1):=List.drop_eq_getElem_cons (by omega);rw[h3]at h1;show(aN (au aN i m)).b.ln=_/\(aN (au aN i m)).now=_
  generalize au aN i m=u at*;unfold aN;rw[h1];exact⟨rfl,h2⟩
theorem BH(e:u.b.ln=p::r):aN u=⟨fk u.a p u.now,dN u.b r,u.now⟩:=by
 unfold aN;rw[e]
theorem rk(h:MW base B m W va vb)(b1:W.heap[C1]?=some (.cells #[.int .i64 (cnt:Int)] 3))(b2:W.heap[C2]?=some (.cells #[(B,61)] 111)):Calls prog 46 #[(B,0),.func (.func 88) #[] #[(C1,0),(C2,0)],m.now] W fun e W'=>e=.returned (.tuple #[])/\∃va' vb',MW base B (au aN (min cnt m.b.ln.length) m) W' va' vb'/\FW B va vb va' vb' W W':=by
 have hbW:Below W W ((W.alloc (.cells #[(B,0)] 81)).alloc (.cells #[m.now] 2)):=((zC _ _).alloc (zD _) _).alloc (by simp) _;have s2:=zF (W.alloc (.cells #[(B,0)] 81)) (.cells #[m.now] 2);rw[World.size_alloc]at s2;have s1:=(zG (W.alloc (.cells #[(B,0)] 81)) (.cells #[m.now] 2) W (by simp)).trans (zF W (.cells #[(B,0)] 81));obtain⟨ca,cb,hM⟩:=h;have hM2:=hM.below hbW;have b1':=(hbW.block C1 (ge.1 b1).1).trans b1;have b2':=(hbW.block C2 (ge.1 b2).1).trans b2;clear b1 b2 hM;refine(callsIn_wide (n:=3)).1 ?_;refine callsIn_of_wp_marks func46 rfl trivial ?_ rfl;simp only[ntmps46,List.size_toArray,List.length_cons,List.length_nil,Nat.reduceAdd,Nat.reduceSub,Array.replicate_succ,Array.replicate_zero,List.push_toArray,List.append_toArray,List.nil_append,List.cons_append];gi_wp2
 generalize hWW:(W.alloc (.cells #[(B,0)] 81)).alloc (.cells #[m.now] 2)=W2 at*;generalize hs1:W.heap.size=S1 at*;refine lZ (gf:=88) (lb:=#[(C1,0),(C2,0)]) rfl (enters_of func88 (by kernel_rfl) rfl) (J:=fun y=>∃va' vb',MW base B (au aN (min cnt m.b.ln.length) m) y va' vb'/\FW B va vb va' vb' W2 y) ?st ?it ?dn
 case st =>
  rintro V l r o hl hV⟨va',vb',⟨ca',cb',hM'⟩,hf⟩;exact⟨va',vb',⟨ca',cb',hM'.put hV rfl (zE hM2.lo.le hl) _⟩,((hf l).put _).all hl⟩
 case dn =>
  rintro D y hD⟨va',vb',⟨ca',cb',hM'⟩,hf⟩hdf;have hfin:Hid (∃va' vb',MW base B (au aN (min cnt m.b.ln.length) m) (y.putObj D (.deferred none)) va' vb'/\FW B va vb va' vb' W (y.putObj D (.deferred none))):=aa (by
   refine⟨va',vb',⟨ca',cb',hM'.put hdf rfl (zE hM2.lo.le hD) _⟩,?_⟩;have h1:=((hf D).put (.deferred none)).all hD;rw[<- hs1]at hbW;exact(FW.of_below hbW).trans h1)
  clear hM' hf;gi_wp2
  refine⟨by simp,.inl ⟨_,_,rfl,run_takeDeferred hdf,?_⟩⟩;exact⟨_,results_none rfl _ _ _,rfl,uh hfin⟩
 case it =>
  intro fn l D W1 R hR hl hD hb1 hz1 hrec;have hnB:∀(g:Nat)(o:Obj),W2.heap[g]?=some o->(∀c,o≠.cells c 66)->g≠B:=fun g o hg ho e=>by
   rw[e,hM2.row]at hg;cases hg;exact ho _ rfl
  have hnO:∀(g:Nat)(o:Obj),W2.heap[g]?=some o->(∀c,o≠.cells c 85)->va.ownBlock≠some g/\vb.ownBlock≠some g:=fun g o hg ho=>by
   refine⟨fun e=>?_,fun e=>?_⟩
   .obtain ⟨_,_,_,c,h2⟩:=hM2.sa.wr.ownB g e;rw[hg]at h2;cases h2;exact ho _ rfl
   .obtain ⟨_,_,_,c,h2⟩:=hM2.sb.wr.ownB g e;rw[hg]at h2;cases h2;exact ho _ rfl
  have kp:∀(g:Nat)(x:Value)(T:TypeId),T≠66->T≠85->W2.heap[g]?=some (.cells #[x] T)->∀y va' vb',Fw l B va vb va' vb' W2 y->y.heap[g]?=some (.cells #[x] T):=fun g x T t1 t2 hg y va' vb' hf =>
   (hf.same g (ge.1 hg).1 (hnB g _ hg (fun c e=>by cases e;exact t1 rfl)) (by have:=(ge.1 hg).1;omega) (hnO g _ hg (fun c e=>by cases e;exact t2 rfl)).1 (hnO g _ hg (fun c e=>by cases e;exact t2 rfl)).2).trans hg
  refine CallsIn.mono (rh (base:=base) (T:=66) (l:=l) (B:=B) (k:=61) (C1:=C1) (C2:=C2) (m0:=m.b.ln.length) (cnt:=cnt) (W:=W1) (n:=2) (by omega) (fun i y=>i<=m.b.ln.length/\RecAt l R D .ready y/\∃va' vb',MW base B (au aN i m) y va' vb'/\Fw l B va vb va' vb' W2 y) ?hI ?hdr ?h0) ?fin
  case fin =>
   rintro e y⟨hv,_,hr,va',vb',h1,h2⟩;exact⟨hv,⟨va',vb',h1,h2.all hl⟩,hr⟩
  case h0=>exact⟨Nat.zero_le _,hrec,va,vb,⟨ca,cb,hM2.below hb1⟩,Fw.of_below hb1⟩
  case hdr =>
   rintro i y⟨h1,h2,va',vb',⟨ca',cb',hM'⟩,hf⟩;exact⟨h1,⟨h2.lp,h2.df⟩,va',vb',⟨ca',cb',hM'.below (zC _ _).drew⟩,hf.trans (Fw.of_below (zC _ _).drew)⟩
  case hI =>
   rintro i y⟨hi,hr,va',vb',⟨ca',cb',hM'⟩,hf⟩;obtain⟨hln,hnow⟩:=fH m i hi;refine⟨kp C1 _ _ (by decide) (by decide) b1' y va' vb' hf,kp C2 _ _ (by decide) (by decide) b2' y va' vb' hf,_,_,vb',(au aN i m).b.ln,hM'.lenB,hM'.sb.wr,by rw[hln,List.length_drop];omega,?_⟩;intro p r z v2 eL hWz hfz;subst hR;have hcB:∃c T,y.heap[B]?=some (.cells c T):=⟨_,_,hM'.row⟩;have hrz:RecAt l _ D .ready z:=hr.keep (hfz.keeps (n:=W2.heap.size) hcB (fun g hg=>(hM'.sb.wr.ownB g hg).2.2.2.imp fun c h=>⟨_,h⟩)) hl hD;have hMz:=hM'.setB (hM'.sb.line hfz hWz) hfz (Nb9.refl _ _);have hfZ:Fw l B va vb va' v2 W2 z:=hf.trans (Fw.b _ hfz);have h1q:i+1<=m.b.ln.length:=by
    have:=congrArg List.length hln
    rw[eL,List.length_drop,List.length_cons]at this;omega
   have hst:au aN (i+1) m=⟨fk (au aN i m).a p (au aN i m).now,dN (au aN i m).b r,(au aN i m).now⟩:=BH eL;refine YieldAt.mono (lX (B:=W2.heap.size) (J:=fun y'=>i+1<=m.b.ln.length/\∃va3 vb3,MW base B (au aN (i+1) m) y' va3 vb3/\Fw l B va vb va3 vb3 W2 y') hrz rfl hl hD ?hJ ?wk) ?mo
   case mo =>
    rintro e z'⟨rfl,⟨h1,h2⟩,h3⟩;exact⟨rfl,h1,h3,h2⟩
   case hJ =>
    rintro V r' o hV⟨h1,va3,vb3,⟨ca3,cb3,hM3⟩,hf3⟩;exact⟨h1,va3,vb3,⟨ca3,cb3,hM3.put hV rfl (zE hM2.lo.le hl) _⟩,hf3.put _⟩
   case wk =>
    have hb4:Below z z (z.alloc (.cells #[p.code,p.id,p.data] 85)):=(zC _ _).alloc (zD _) _;have hN4:=zF z (.cells #[p.code,p.id,p.data] 85);have hlz:l<z.heap.size:=(ge.1 hrz.lp).1;have hl4:=(hb4.block l hlz).trans hrz.lp;have HH:Hid (∀o:Obj,∃ca3 va3 cb3 vb3,Mt base ((z.alloc (.cells #[p.code,p.id,p.data] 85)).putObj l o) B ⟨(au aN i m).a,dN (au aN i m).b r,(au aN i m).now⟩ ca3 va3 cb3 vb3/\Fw l B va vb va3 vb3 W2 ((z.alloc (.cells #[p.code,p.id,p.data] 85)).putObj l o)/\((z.alloc (.cells #[p.code,p.id,p.data] 85)).putObj l o).heap[z.heap.size]?=some (.cells #[p.code,p.id,p.data] 85)/\∀g,(va3.ownBlock=some g\/vb3.ownBlock=some g)->g<z.heap.size):=aa fun o =>
     ⟨_,_,_,_,(hMz.below hb4).put hl4 rfl (zE hM2.lo.le hl) o,(hfZ.trans (Fw.of_below hb4)).put o,(World.putObj_heap_other (by omega)).trans hN4,fun g hg=>hg.elim (fun e=>(hMz.sa.wr.ownB g e).2.2.1) (fun e=>(hMz.sb.wr.ownB g e).2.2.1)⟩
    have HK9:Hid (KeepsFrom W2 z (z.alloc (.cells #[p.code,p.id,p.data] 85))):=aa (eD hb4);have HS1:=aa (kp S1 _ _ (by decide) (by decide) s1);have HS2:=aa (kp (S1+1) _ _ (by decide) (by decide) s2);rw[<- hnow]at HS2;have HST:=aa hst;clear hb4 hN4 hl4 hst hMz hfZ hWz hfz hM' hf hrz hr hrec kp hnB hnO hcB hM2 hb1 b1' b2' s1 s2 hbW hWW hz1;gi_wp2
    refine⟨uh HK9,?_⟩;intro W3 hW3 hr3;obtain⟨ca3,va3,cb3,vb3,hM3,hf3,hN3,hown⟩:=uh HH (.loop (fF fn _ _ _ _ D .busy));rw[<- hW3]at hM3 hf3 hN3;clear HH HK9 hW3 hr3;have g1:=gP (uh HS1 _ _ _ hf3);have g2:=gP (uh HS2 _ _ _ hf3);have hd3:Below W3 W3 W3.drew:=(zC _ _).drew;have hM4:=hM3.below hd3;have hlx:=(rfl:([]:List Value).length=0);have rg:W3.drew.rangeAt B 0 ca3:=by
     have:=aS hM4.sa.row
     rw[hlx]at this;exact this
    have hl9:=hM4.ea.len;have CH:=aa (tK hM4.ea hM4.lo p (au aN i m).now);have CF:=aa fun q cl vs (hA:AnE W3.drew.heap.size q (bn (au aN i m).a.e (au aN i m).a.F1 (au aN i m).a.F2 p (au aN i m).now) cl vs) (hfv:∀g,vs.ownBlock=some g->W3.drew.heap.size<=g) (hbq:Below W3.drew.heap.size W3.drew q)=>th hM4.sa (by decide) (iF _ _ _ _ _) hA hfv hbq
    rw[hlx]at CF;have hSm:∀q,Below W3 W3 q->q.cell? (S1,0)=some (.pointer (some (B,0)))/\q.cell? (S1+1,0)=some (.int .i64 (au aN i m).now)/\q.cell? (z,0)=some (.int .i64 p.code)/\q.cell? (z,1)=some (.int .i64 p.id)/\q.cell? (z,2)=some (.string p.data):=fun q hq=>by
     have h3:=(hq.block _ (ge.1 hN3).1).trans hN3;exact⟨(hq.cell (p:=(S1,0)) (World.block_lt_of_cell? _ _ g1)).trans g1,(hq.cell (p:=(S1+1,0)) (World.block_lt_of_cell? _ _ g2)).trans g2,cv h3,cv h3,cv h3⟩
    have HSm:=aa hSm;have HFIN:Hid (∀W' cb' v3,Sl base 66 W' B ([]:List Value) (cb3++[vb3]++[Value.int .i64 (au aN i m).now]) (fk (au aN i m).a p (au aN i m).now) cb' v3->Fr B va3 v3 W3.drew W'->Nb9 W3.drew ca3 cb'->(W'.cell? (S1,0)=some (.pointer (some (B,0)))/\W'.cell? (S1+1,0)=some (.int .i64 (au aN i m).now)/\W'.cell? (z,0)=some (.int .i64 p.code)/\W'.cell? (z,1)=some (.int .i64 p.id)/\W'.cell? (z,2)=some (p.data:V))/\KeepsFrom W2 W3 W'/\∃va3 vb3,MW base B (au aN (i+1) m) W' va3 vb3/\Fw l B va vb va3 vb3 W2 W'):=aa fun W' cb' v3 hs hfr hnb=>by
     have hN0:W3.drew.heap[z.heap.size]?=_:=hN3;have e3:W'.heap[z.heap.size]?=_:=(hfr.same _ (ge.1 hN0).1 (fun e=>by
      rw[e,hM4.row]at hN0;injection hN0 with e1;injection e1 with _ e1;exact absurd e1 (by decide)) (fun e=>by have:=hown _ (Or.inl e);omega)).trans hN0
     have kx:∀(g:Nat)(x:Value)(T:TypeId),T≠66->T≠85->W3.heap[g]?=some (.cells #[x] T)->W'.cell? (g,0)=some x:=fun g x T t1 t2 hg=>by
      have hg0:W3.drew.heap[g]?=_:=hg;have:=(hfr.same g (ge.1 hg0).1 (fun e=>by
       rw[e,hM4.row]at hg0;injection hg0 with e1;injection e1 with _ e1;exact t1 e1.symm) (fun e=>by
       obtain⟨_,_,_,c,h2⟩:=hM4.sa.wr.ownB g e;rw[hg0]at h2;cases h2;exact t2 rfl)).trans hg0
      exact gP this
     refine⟨⟨kx S1 _ _ (by decide) (by decide) (uh HS1 _ _ _ hf3),kx (S1+1) _ _ (by decide) (by decide) (uh HS2 _ _ _ hf3),cv e3,cv e3,cv e3⟩,(eD hd3).trans (hfr.keeps ⟨_,_,hM4.row⟩ (fun g hg=>(hM4.sa.wr.ownB g hg).2.2.2.imp fun c h=>⟨_,h⟩)),v3,vb3,?_,hf3.trans ((Fw.of_below hd3).trans (Fw.a _ hfr))⟩;rw[uh HST];exact⟨_,_,hM4.setA hs hfr hnb⟩
    clear hSm hd3 hM4 hM3 hf3 g1 g2 hN3 HST HS1 HS2 hown hlx;generalize z.heap.size=N at*;unfold fk at HFIN;generalize bn (au aN i m).a.e (au aN i m).a.F1 (au aN i m).a.F2 p (au aN i m).now=EO9 at*;rw[hnow]at CH CF HSm HFIN;clear hnow;obtain⟨pc,pi,pd⟩:=p;dsimp only at CH HSm HFIN;gi_wp2
    refine gO (S:=fun w=>w.cell? (S1,0)=some (.pointer (some (B,0)))/\w.cell? (S1+1,0)=some (.int .i64 m.now)/\w.cell? (N,0)=some (.int .i64 pc)/\w.cell? (N,1)=some (.int .i64 pi)/\w.cell? (N,2)=some (pd:V)) (by kernel_rfl) (by kernel_rfl) ?_ ?_
    .rintro ⟨a,w,h⟩;cases h.1
    have hS0:=uh HSm W3.drew (zC _ _).drew;refine tq 0 1 2 3 ?_;refine tt 5 6 ?_;refine r3 4 fun K hK=>?_
    rw[if_pos (by rfl)];refine wp_load_mid 32 (.tmp 12) rfl B 0 rfl ca3 _ rg underlying32 rfl (by rw[hl9];exact aL) ?_;refine ro hK hS0 fun _=>?_
    clear hK K;refine r3 7 fun K hK=>?_
    go_simp;refine CH.out.mono ?_;rintro r q⟨cl,vs,rfl,hA,hfv,hbq⟩;have hS1:=uh HSm q ((zC W3 W3).drew.trans hbq);have HQ:=aa (uh CF q cl vs hA hfv hbq);clear CH CF hA hfv hbq hS0;refine ro hK hS1 fun _=>?_
    clear hK K;refine r3 8 fun K hK=>?_
    go_simp;refine HQ.out.mono ?_;rintro e W'⟨rfl,cb',v3,hs,hfr,hnb⟩;obtain⟨hS2,hk9,hj9⟩:=uh HFIN W' cb' v3 hs hfr hnb;refine ro hK hS2 fun _=>?_
    clear hK K;refine dn ?_ _;exact⟨rfl,hk9,h1q,hj9⟩
end
end Go.Proofs.YtjdgiimfpkideaaGreatDoor
