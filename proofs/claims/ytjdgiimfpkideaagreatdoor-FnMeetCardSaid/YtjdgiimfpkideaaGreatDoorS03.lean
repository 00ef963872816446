/- StrApp OptB PairO PktB Judge AskI AskL CfM CfW -/
import Derived.Test.YtjdgiimfpkideaaGreatDoorS02
import Derived.Test.YtjdgiimfpkideaaGreatDoorS01
set_option maxHeartbeats 8000000
set_option maxRecDepth 100000
namespace Go.Proofs.YtjdgiimfpkideaaGreatDoor
open Go.RowKit Go.Proofs.Tryz
variable {w W q:World} {ops:Array Oper} {rest:List Oper} {o:Oper} {a:Act} {Q:Exit->Act->World->Prop} {F:List Op.Opt} {x:Int} {p:Op.Pk} {E M:Nat} {x0 x1 x2 x3 x4 x5:Value}
theorem pI(t:ByteArray):Lib.strCells t=dg t.data.toList:=by
 simp[Lib.strCells,dg,mp]
theorem jc(hgd:o.guard=none)(s x:Operand)(ho:o.op=.call {callee:=.builtin .append,args:=#[s,x],argTypes:=#[22,9]})(base:Nat)(v:Value)(L:List UInt8)(hs:a.eval s=v)(hown:w.ownsRow base 5 1 v L.length (dg L))(t:ByteArray)(hx:a.eval x=.string t)(hlen:L.length+t.size<=1000000)(hbase:base<=w.heap.size)(h:∀v' w',w'.ownsRow base 5 1 v' (L.length+t.size) (dg (L++t.data.toList))->Below base w w'->wpList prog ops Q rest (a.put o.dst v') w'):wpList prog ops Q (o::rest) a w:=by
 obtain⟨ui,hi1,hi2,hi3,hi4⟩:=mn;refine Lib.wpList_append_own_string w hgd s x 22 9 ho base 5 ui underlying22 underlying9 hi1 hi2 hi3 hi4 v L.length (dg L) hs hown t hx (by unfold maxLen;omega) (by omega) hbase ?_;intro v' w' h1 h2 _;refine h v' w' ?_ ((zC _ _).grown h2 hbase (fun q hq=>(World.ownsRow.lt hown q hq).1));rw[fo,<- pI];exact h1
theorem je(l m:List UInt8):co (l++m)=co l++co m:=by
 apply ByteArray.ext
 simp[co]
def rD(F:List Op.Opt):ByteArray:=co (Op.told F)
theorem uB(h:Op.right F=false):rD F=⟨#[]⟩:=by unfold rD Op.told;rw[if_neg (by rw[h];decide)];rfl
theorem fI(h:Op.right F=true):rD F=co (Op.bytes F):=by unfold rD Op.told;rw[if_pos h]
theorem pJ{o:Op.Opt}(h:Op.ok o=true):∃k n:UInt8,o.kind=(k.toNat:Int)/\(o.data.size:Int)+2=(n.toNat:Int)/\o.data.size<=20/\Op.one o=[k,n]++o.data.data.toList:=by
  have h':=of_decide_eq_true h;refine⟨UInt8.ofNat o.kind.toNat,UInt8.ofNat (o.data.size+2),?_,?_,h'.2.2,rfl⟩
  . have:(UInt8.ofNat o.kind.toNat).toNat=o.kind.toNat:=by simp;omega
    omega
  . have:(UInt8.ofNat (o.data.size+2)).toNat=o.data.size+2:=by simp;omega
    omega
theorem uB8:∀c:UInt8,IntKind.u8.wrap (c.toNat:Int)=(c.toNat:Int):=fun c=>by rw[IntKind.wrap_u8];have:=c.toNat_lt;omega
theorem nB8:∀c:UInt8,(c.toNat:Int)%256=(c.toNat:Int):=fun c=>by have:=c.toNat_lt;omega
theorem pK(t:ByteArray)(h:t.size<=20):IntKind.u8.wrap (IntKind.i64.wrap ((t.size:Int)+2))=(t.size:Int)+2:=by
  rw[IntKind.wrap_i64,IntKind.wrap_u8];omega
theorem jf(F:List Op.Opt)(i:Nat)(hi:i<F.length):Op.bytes (F.take (i+1))=Op.bytes (F.take i)++Op.one F[i]:=by
  rw[List.take_succ_eq_append_getElem hi,Op.bytes_snoc]
theorem ft(h:Op.right F=true)(i:Nat):(Op.bytes (F.take i)).length<=440:=by
  have h1:=Op.bytes_len (l:=F.take i) fun o ho=>Op.right_all h o (List.mem_of_mem_take ho)
  have h2:=Op.right_len h;rw[List.length_take]at h1;omega
theorem mF(ad:Option Addr)(cp:Nat)(w:World):Calls prog 131 #[(ad,0,cp)] w fun e w'=>e=.returned (.string ⟨#[]⟩)/\Below w w w':=by
  have hcv:∀w1:World,(convert 22 9 ()).run prog w1=.ok (.string ⟨#[]⟩) w1:=fun w1=>eK (l:=[]) (base:=0) ⟨rfl,Or.inl ⟨rfl,rfl⟩⟩
  go_enter func131,ntmps131
  go_wp2_with fail
  refine(iW ad cp w).mono ?_;rintro e w1⟨rfl,hb1⟩;go_wp2_with fail
  go_loopw [3,11] (fun x y wr=>x=.slice none 0 0/\y=.int .i64 0/\wr=w1) (fun _ _ _=>0)
  case atStart=>exact⟨rfl,rfl,rfl⟩
  case round =>
    obtain⟨rfl,rfl,rfl⟩:=hrel;go_wp2
    go_ret
    exact⟨rfl,hb1⟩
theorem jg{wr:World}{cs:Array Value}(hgd:o.guard=none)(s x:Operand)(ho:o.op=.call {callee:=.builtin .append,args:=#[s,x],argTypes:=#[22,22]})(base:Nat)(v:Value)(L news:List UInt8)(hs:a.eval s=v)(hown:wr.ownsRow base 5 1 v L.length (dg L))(m:Nat)(hm:news.length=m)(hx:a.eval x=.slice (some (wr,0)) m m)(hcs:cs.toList=dg news)(hlen:L.length+news.length<=10000000)(hbase:base<=wr.heap.size)(h:∀v' w',w'.ownsRow base 5 1 v' (L++news).length (dg (L++news))->Below base wr w'->(∀k,k<wr.heap.size->v.ownBlock≠some k->w'.heap[k]?=wr.heap[k]?)->wr.heap.size<=w'.heap.size->wpList prog ops Q rest (a.put o.dst v') w'):wpList prog ops Q (o::rest) a (wr.alloc (.cells cs 5)):=by
  obtain⟨ui,hi1,hi2,hi3,hi4⟩:=mn;subst hm;refine wpList_append_own _ hgd s x 22 ho base 5 ui (.int .u8 0) 1 1 underlying22 hi1 hi2 hi3 hi4 rfl (by decide) v L.length (dg L) hs (hown.alloc _) (wr,0) news.length news.length (dg news) hx (by rw[oX,Nat.mul_one]) ?_ ?_ ?_ ?_ ?_ ?_
  . intro i u hu
    rw[Addr.add_lit,Nat.zero_add,World.cell?_alloc_at _ _ _ _ rfl,<- hu,<- hcs,Array.getElem?_toList]
  . intro u hu
    simp only[dg,mp,List.map_map,List.mem_map]at hu;obtain⟨x,_,rfl⟩:=hu;rfl
  . unfold maxLen;omega
  . omega
  . simp;omega
  . intro v' w2 hown2 hg2 _
    have hsz:=hg2.size;refine h v' w2 ?_ ?_ (fun k hk hne=>(hg2.block k (by simp;omega) (Ne.symm hne)).trans (zG _ _ _ hk)) (by simp at hsz;omega)
    . rw[fo,List.length_append];exact hown2
    . exact((zC _ _).alloc hbase _).grown hg2 (by simp;omega) (fun q hq=>by exact(World.ownsRow.lt hown q hq).1)
theorem gz(hgd:o.guard=none)(s x:Operand)(ho:o.op=.call {callee:=.builtin .append,args:=#[s,x],argTypes:=#[22,9]})(base:Nat)(v:Value)(L:List UInt8)(n:Nat)(hn:L.length=n)(hs:a.eval s=v)(hown:w.ownsRow base 5 1 v n (dg L))(t:ByteArray)(hx:a.eval x=.string t)(hlen:n+t.size<=1000000)(hbase:base<=w.heap.size)(h:∀v' w',w'.ownsRow base 5 1 v' (n+t.size) (dg (L++t.data.toList))->Below base w w'->wpList prog ops Q rest (a.put o.dst v') w'):wpList prog ops Q (o::rest) a w:=by
  subst hn;exact jc hgd s x ho base v L hs hown t hx hlen hbase h
theorem mG(g cp:Nat)(F:List Op.Opt)(cur:Array Value)(w:World)(hm:F.length<=maxLen)(h1:w.heap[g]?=some (.cells cur 105))(a1:∀j,j<F.length*2->cur[j]?=(aj F)[j]?):Calls prog 131 #[.slice (some (g,0)) F.length cp] w fun e w'=>e=.returned (.string (rD F))/\Below w w w':=by
  have C:=aa (iX g cp F cur w hm h1 a1);have hl1:g<w.heap.size:=(ge.1 h1).1;obtain⟨n,hn⟩ := ex F.length;cases hr:Op.right F
  . rw[hr]at C
    rw[uB hr,hn];rw[hn]at C;clear hr a1;go_enter func131,ntmps131
    go_wp2_with fail
    refine C.out.mono ?_;rintro e w1⟨rfl,hb1⟩;go_wp2
    go_ret
    exact⟨rfl,hb1⟩
  . rw[hr]at C
    rw[fI hr,hn];rw[hn]at C;have hn20:=Op.right_len hr;have HA:Hid (∀i (hi:i<n),cur[i*2]?=some (.int .i64 (F[i]'(by omega)).kind)/\cur[i*2+1]?=some (.string (F[i]'(by omega)).data)):=by
      refine aa fun i hi=>?_
      have q:=bW F i (F[i]'(by omega)) (List.getElem?_eq_getElem (by omega));exact⟨(a1 _ (by omega)).trans q.1,(a1 _ (by omega)).trans q.2⟩
    have HK:Hid (∀i (hi:i<n),Op.ok (F[i]'(by omega))=true):=aa fun i hi=>Op.right_all hr _ (List.getElem_mem _)
    have HT:Hid (∀i (hi:i<n),Op.bytes (F.take (i+1))=Op.bytes (F.take i)++Op.one (F[i]'(by omega))):=aa fun i hi=>jf F i (by omega)
    have HLB:Hid (∀i,(Op.bytes (F.take i)).length<=440):=aa fun i=>ft hr i
    have HEND:Hid (F.take n=F):=aa (List.take_of_length_le (by omega));clear a1 hm hr;go_enter func131,ntmps131
    go_wp2_with fail
    refine C.out.mono ?_;rintro e w1⟨rfl,hb1⟩;clear C;go_wp2_with fail
    go_loopw [3,11] (fun x y wr=>∃(i:Nat),i<=n/\y=.int .i64 i/\(∃a c,x=.slice a (Op.bytes (F.take i)).length c)/\wr.ownsRow w 5 1 x (Op.bytes (F.take i)).length (dg (Op.bytes (F.take i)))/\Below w w wr) (fun _ y _=>n-(intOf y).toNat)
    case atStart=>exact⟨0,Nat.zero_le _,rfl,⟨_,_,rfl⟩,⟨rfl,Or.inl ⟨rfl,rfl⟩⟩,hb1⟩
    case round =>
      obtain⟨i,hi,rfl,⟨xa,xc,rfl⟩,hown,hb⟩:=hrel;have hbs:=hb.size;by_cases hlt:i<n
      . have d1:(i:Int)<(n:Int):=by omega
        obtain⟨q1,q2⟩:=uh HA i hlt;have e1:=(hb.block g hl1).trans h1;have hbt:=uh HT i hlt;have hlb:=uh HLB i;obtain⟨k,m,hk,hm2,hd20,hone⟩:=pJ (uh HK i hlt);generalize hO:F[i]'(by omega)=op at*;obtain⟨kd,dt⟩:=op;dsimp only at q1 q2 hk hm2 hd20 hone;subst hk;have k0:wr.cell? ⟨g,i*2,none⟩=some (.int .i64 k.toNat):=by rw[cr e1];exact q1
        have k1:wr.cell? ⟨g,i*2+1,none⟩=some (.string dt):=by rw[cr e1];exact q2
        rw[hone]at hbt;have HBT:=aa hbt;generalize Op.bytes (F.take i)=L at*;have HM:Hid (2+(dt.size:Int)=(m.toNat:Int)):=aa (by omega);have HOW:=aa hown;have wb:=uB8;have mb:=nB8;have hgr:g<wr.heap.size:=Nat.lt_of_lt_of_le hl1 hbs;have hgr':¬(g=wr.heap.size):=by omega
        have HNE:Hid ((Value.slice xa L.length xc).ownBlock≠some wr.heap.size):=aa fun e=>by have:=World.ownsRow.lt HOW.out _ e;omega
        have hmlt:=m.toNat_lt;clear q1 q2 e1 hbt hone hO hown HA HK HT HLB h1;go_upto_region 7 with fail
        refine bb (fun q=>q.heap[wr.heap.size]?=some (.cells #[k.toNat,dt] 105)/\q.ownsRow w 5 1 (xa,L.length,xc) L.length (dg L)/\Below w w q/\wr.heap.size<q.heap.size)
          ⟨zF wr _,HOW.out.alloc _,hb.alloc hbs _,by simp⟩ ?_
        rintro q⟨hop,hoq,hbq,hlq⟩;have c0:q.cell? (wr,0)=some (.int .i64 k.toNat):=cv hop
        have c1:q.cell? (wr,1)=some (.string dt):=cv hop
        have HOQ:=aa hoq;have HOP:=aa hop;have hbqs:=hbq.size;clear hop hoq k0 k1 HOW hgr hgr'
        go_wp2_with (first
          | (at_builtin;refine jg rfl _ _ rfl w (xa,L.length,xc) L [k,m] rfl HOQ.out 2 rfl rfl (by show[_,_]=dg [k,m];rw[kO,<- uh HM]) (by simp;omega) hbqs ?_;rintro v2 w2 ho2 hb2 hk2 hs2;rw[show(L++[k,m]).length=L.length+2 by simp]at ho2;obtain⟨a2,c2,rfl⟩:=af ho2;have hop2:=(hk2 wr hlq HNE.out).trans HOP.out;have e1:w2.cell? (wr,1)=some (.string dt):=by {rw[cr hop2];rfl};have hB2:=hbq.trans hb2;have hB2s:=hB2.size;have HO2:=aa ho2;clear ho2 hop2 hk2 hb2 HOQ HOP HNE HM)
          | (at_builtin;refine gz rfl _ _ rfl w _ (L++[k,m]) (L.length+2) (by simp) rfl HO2.out dt rfl (by omega) hB2s ?_;rintro v3 w3 ho3 hb3;obtain⟨a3,c3,rfl⟩:=af ho3;have HO3:=aa ho3;clear ho3 HO2))
        go_roundw
        case rel =>
          have hdl:dt.data.toList.length=dt.size:=by rw[Array.length_toList];rfl
          have hlen:L.length+2+dt.size=(Op.bytes (F.take (i+1))).length:=by rw[uh HBT,List.length_append,List.length_append,hdl];simp;omega
          have hbys:L++[k,m]++dt.data.toList=Op.bytes (F.take (i+1)):=by rw[uh HBT,List.append_assoc]
          refine⟨i+1,by omega,by go_num,⟨a3,c3,by rw[<- hlen]⟩,?_,hB2.trans hb3⟩;have h:=uh HO3;rw[hlen,hbys]at h;rw[hlen];exact h
        case measure=>simp[intOf];omega
      . have e:i=n:=by omega
        subst e;have d1:¬((i:Int)<(i:Int)):=by omega
        rw[uh HEND]at hown|-;have hcv:=eK hown;go_wp2
        go_ret
        exact⟨rfl,hb⟩
theorem cP(v:Value)(F:List Op.Opt)(w:World)(hm:F.length<=maxLen)(h:HoldsO w v F):Calls prog 131 #[v] w fun e w'=>e=.returned (.string (rD F))/\Below w w w':=by
  rcases h with⟨ad,cp,rfl,rfl⟩|⟨g,cp,cur,rfl,h2,_,h4⟩
  . exact mF ad cp w
  . exact mG g cp F cur w hm h2 h4
theorem r_(ad:Option Addr)(cp:Nat)(w:World):Calls prog 76 #[(ad,0,cp)] w fun e w'=>e=.returned (.string ⟨#[]⟩)/\Below w w w':=by
  have h0:(w.alloc (.cells #[] 5)).ownsRow w 5 1 (.slice (some (w,0)) 0 0) 0 (dg []):=World.ownsRow_lit w #[] 0 (by omega) (Nat.zero_le _) rfl;have hcv:=eK h0;go_enter func76,ntmps76
  go_wp2_with fail
  go_loopw [3,4] (fun x y wr=>x=.slice (some (w,0)) 0 0/\y=.int .i64 0/\wr=w.alloc (.cells #[] 5)) (fun _ _ _=>0)
  case atStart=>exact⟨rfl,rfl,rfl⟩
  case round =>
    obtain⟨rfl,rfl,rfl⟩:=hrel;go_wp2
    go_ret
    exact⟨rfl,(zC _ _).alloc (zD _) _⟩
theorem sd(g cp:Nat)(F:List Op.Opt)(cur:Array Value)(w:World)(hr:Op.right F=true)(h1:w.heap[g]?=some (.cells cur 105))(a1:∀j,j<F.length*2->cur[j]?=(aj F)[j]?):Calls prog 76 #[.slice (some (g,0)) F.length cp] w fun e w'=>e=.returned (.string (co (Op.bytes F)))/\Below w w w':=by
  obtain⟨ui,hi1,hi2,hi3,hi4⟩:=mn;have hl1:g<w.heap.size:=(ge.1 h1).1;obtain⟨n,hn⟩ := ex F.length;rw[hn];have hn20:=Op.right_len hr;have HA:Hid (∀i (hi:i<n),cur[i*2]?=some (.int .i64 (F[i]'(by omega)).kind)/\cur[i*2+1]?=some (.string (F[i]'(by omega)).data)):=by
    refine aa fun i hi=>?_
    have q:=bW F i (F[i]'(by omega)) (List.getElem?_eq_getElem (by omega));exact⟨(a1 _ (by omega)).trans q.1,(a1 _ (by omega)).trans q.2⟩
  have HK:Hid (∀i (hi:i<n),Op.ok (F[i]'(by omega))=true):=aa fun i hi=>Op.right_all hr _ (List.getElem_mem _)
  have HT:Hid (∀i (hi:i<n),Op.bytes (F.take (i+1))=Op.bytes (F.take i)++Op.one (F[i]'(by omega))):=aa fun i hi=>jf F i (by omega)
  have HLB:Hid (∀i,(Op.bytes (F.take i)).length<=440):=aa fun i=>ft hr i
  have HEND:Hid (F.take n=F):=aa (List.take_of_length_le (by omega));clear a1 hr;go_enter func76,ntmps76
  go_wp2_with fail
  go_loopw [3,4] (fun x y wr=>∃(i:Nat),i<=n/\y=.int .i64 i/\(∃a c,x=.slice a (Op.bytes (F.take i)).length c)/\wr.ownsRow w 5 1 x (Op.bytes (F.take i)).length (dg (Op.bytes (F.take i)))/\Below w w wr) (fun _ y _=>n-(intOf y).toNat)
  case atStart=>exact⟨0,Nat.zero_le _,rfl,⟨_,_,rfl⟩,World.ownsRow_lit w #[] 0 (by omega) (Nat.zero_le _) rfl,(zC _ _).alloc (zD _) _⟩
  case round =>
    obtain⟨i,hi,rfl,⟨xa,xc,rfl⟩,hown,hb⟩:=hrel;have hbs:=hb.size;by_cases hlt:i<n
    . have d1:(i:Int)<(n:Int):=by omega
      have d0:(0:Int)<=(i:Int):=by omega
      obtain⟨q1,q2⟩:=uh HA i hlt;have e1:=(hb.block g hl1).trans h1;have hbt:=uh HT i hlt;have hlb:=uh HLB i;obtain⟨k,m,hk,hm2,hd20,hone⟩:=pJ (uh HK i hlt);generalize hO:F[i]'(by omega)=op at*;obtain⟨kd,dt⟩:=op;dsimp only at q1 q2 hk hm2 hd20 hone;subst hk;have k0:wr.cell? ⟨g,i*2,none⟩=some (.int .i64 k.toNat):=by rw[cr e1];exact q1
      have k1:wr.cell? ⟨g,i*2+1,none⟩=some (.string dt):=by rw[cr e1];exact q2
      rw[hone]at hbt;have HBT:=aa hbt;generalize Op.bytes (F.take i)=L at*;have HM:Hid ((dt.size:Int)+2=(m.toNat:Int)):=aa hm2;have HOW:=aa hown;have wb:=uB8;have mb:=nB8;have hgr:g<wr.heap.size:=Nat.lt_of_lt_of_le hl1 hbs;have hNE:(Value.slice xa L.length xc).ownBlock≠some g:=fun e=>by have:=World.ownsRow.lt HOW.out _ e;omega
      have HC:Hid ([Value.int .u8 (k.toNat:Int),.int .u8 (IntKind.u8.wrap (IntKind.i64.wrap ((dt.size:Int)+2)))]=dg [k,m]):=aa (by rw[kO,<- hm2,pK dt hd20]);clear q1 q2 e1 hbt hone hO hown HA HK HT HLB h1 hm2;go_wp2_with fail
      go_region_held3 (fun z=>z.cell? ⟨g,i*2,none⟩=some (.int .i64 k.toNat)/\z.cell? ⟨g,i*2+1,none⟩=some (dt:V))
        (first
          | go_keep
          | (go_split_ands
             refine⟨?_,?_⟩
             · (rw[hgrow.cell_far _ (by simp;omega) (Ne.symm hNE)];assumption)
             · (rw[hgrow.cell_far _ (by simp;omega) (Ne.symm hNE)];assumption)))
        ((refine step_append_lies _ (by rfl) _ _ _ (by rfl) w 5 ui _ 1 1 underlying22 hi1 hi2 hi3 hi4 rfl (by omega) (xa,L.length,xc) L.length (dg L) (by rfl) ((HOW.out.alloc _).drew)
            ⟨wr.heap.size,0,none⟩ 2 2 [.int .u8 k.toNat,.int .u8 (IntKind.u8.wrap (IntKind.i64.wrap ((dt.size:Int)+2)))] (by rfl) (by rfl) (World.news_of_block (cs:=#[.int .u8 k.toNat,.int .u8 (IntKind.u8.wrap (IntKind.i64.wrap ((dt.size:Int)+2)))]) (t:=5) (fr:=(0,0)) (zF wr _)) (by simp[Value.oneCell'])
            (by omega) (by unfold maxLen;omega) (by omega) (by simp;omega) (wr.heap.size+1) (by simp) ?_;intro gg cap3 w3 hown3 hgrow hat hlt3))
      all_goals
        rw[uh HC,<- fo]at hown3;have e1:w3.cell? ⟨g,i*2+1,none⟩=some (.string dt):=by
          rw[hgrow.cell_far ⟨g,i*2+1,none⟩ (by simp;omega) (Ne.symm hNE)];exact(((zC wr wr).alloc (zD _) _).drew.cell (p:=⟨g,i*2+1,none⟩) hgr).trans k1
        have hbw3:Below w w w3:=((hb.alloc hbs _).drew).grown hgrow (by simp;omega) (fun p hp=>(World.ownsRow.lt HOW.out p hp).1);have hbs3:=hbw3.size;have HO2:=aa hown3;clear hown3 hgrow hat HOW HC HM k0 k1
        go_wp2_with (first
          | (at_builtin;refine gz rfl _ _ rfl w _ (L++[k,m]) (L.length+2) (by simp) rfl HO2.out dt rfl (by omega) hbs3 ?_;rintro v3 w4 ho3 hb3;obtain⟨a3,c3,rfl⟩:=af ho3;have HO3:=aa ho3;clear ho3 HO2))
        go_roundw
        case rel =>
          have hdl:dt.data.toList.length=dt.size:=by rw[Array.length_toList];rfl
          have hlen:L.length+2+dt.size=(Op.bytes (F.take (i+1))).length:=by rw[uh HBT,List.length_append,List.length_append,hdl];simp;omega
          have hbys:L++[k,m]++dt.data.toList=Op.bytes (F.take (i+1)):=by rw[uh HBT,List.append_assoc]
          refine⟨i+1,by omega,by go_num,⟨a3,c3,by rw[<- hlen]⟩,?_,hbw3.trans hb3⟩;have h:=uh HO3;rw[hlen,hbys]at h;rw[hlen];exact h
        case measure=>simp[intOf];omega
    . have e:i=n:=by omega
      subst e;have d1:¬((i:Int)<(i:Int)):=by omega
      rw[uh HEND]at hown|-;have hcv:=eK hown;go_wp2
      go_ret
      exact⟨rfl,hb⟩
theorem nC{k:Nat}(hk:k<65536):(k:Int) / 256=((UInt8.ofNat (k / 256)).toNat:Int):=by
 have:(UInt8.ofNat (k / 256)).toNat=k / 256:=by simp;omega
 omega
theorem nD(k:Nat):(k:Int)%256=((UInt8.ofNat k).toNat:Int):=by
 have:(UInt8.ofNat k).toNat=k%256:=by simp
 omega
theorem uC(k:Nat)(hk:k<65536)(w:World):Calls prog 253 #[k] w fun e w'=>e=.returned (.agg #[.int .u8 (UInt8.ofNat (k / 256)).toNat,  .int .u8 (UInt8.ofNat k).toNat])/\w'=w.alloc (.cells #[.int .u8 (UInt8.ofNat (k / 256)).toNat,.int .u8 (UInt8.ofNat k).toNat] 306):=by
 rw[<- nC hk,<- nD k];go_enter func253,ntmps253
 go_wp2
 refine bodyPost_ret (v:=.agg #[.int .u8 ((k:Int) / 256),.int .u8 ((k:Int)%256)]) (by simp[results,results253,go_sem]) rfl ⟨rfl,rfl⟩
theorem lm(p:Op.Pk)(P:Prop)(h1:¬(0<=p.code/\p.code<=255)->Op.pok p=false->P)(h2:0<=p.code/\p.code<=255->¬(0<=p.id/\p.id<=255)->Op.pok p=false->P)(h3:0<=p.code/\p.code<=255->0<=p.id/\p.id<=255->250<p.data.size->Op.pok p=false->P)(h4:0<=p.code/\p.code<=255->0<=p.id/\p.id<=255->p.data.size<=250->Op.pok p=true->P):P:=by
 by_cases a:0<=p.code/\p.code<=255
 .by_cases b:0<=p.id/\p.id<=255
  .by_cases c:p.data.size<=250
   .exact h4 a b c (decide_eq_true (by omega))
   .exact h3 a b (by omega) (decide_eq_false (by omega))
  .exact h2 a b (decide_eq_false (by omega))
 .exact h1 a (decide_eq_false (by omega))
theorem fW(h:0<=x/\x<=255):(decide (0<=x)&&decide (x<=255))=true:=by simp;omega
theorem ki(h:¬(0<=x/\x<=255)):(decide (0<=x)&&decide (x<=255))=false:=by simp;omega
theorem dZ(x y:Int)(t:ByteArray)(w:World):Calls prog 92 #[.agg #[x,y,t]] w fun e w'=>e=.returned (.bool (Op.pok ⟨x,y,t⟩))/\Below w w w':=by
 have C1:=aa fun v=>Cm x v
 have C2:=aa fun v=>Cm y v
 obtain⟨R,hR⟩ := ex (Op.pok ⟨x,y,t⟩);rw[hR];refine lm ⟨x,y,t⟩ _ (fun a r=>?_) (fun a b r=>?_) (fun a b c r=>?_) (fun a b c r=>?_)
 all_goals
  dsimp only at a;rw[hR]at r;subst r;clear hR
 .rw [ki a]at C1;clear a C2;go_enter func92,ntmps92
  go_wp2_with (first
   | (go_at_call 113;refine(uh C1 _).mono ?_;rintro e w2⟨rfl,rfl⟩))
  go_ret
  exact⟨rfl,(zC _ _).alloc (zD _) _⟩
 .dsimp only at b;rw[fW a]at C1;rw[ki b]at C2;clear a b;go_enter func92,ntmps92
  go_wp2_with fail
  refine(uh C1 _).mono ?_;rintro e w2⟨rfl,rfl⟩;go_wp2_with fail
  refine(uh C2 _).mono ?_;rintro e w2⟨rfl,rfl⟩;go_wp2
  go_ret
  exact⟨rfl,(zC _ _).alloc (zD _) _⟩
 .dsimp only at b c;rw[fW a]at C1;rw[fW b]at C2;have f1:decide ((t.size:Int)<=250)=false:=decide_eq_false (by omega);clear a b c;go_enter func92,ntmps92
  go_wp2_with fail
  refine(uh C1 _).mono ?_;rintro e w2⟨rfl,rfl⟩;go_wp2_with fail
  refine(uh C2 _).mono ?_;rintro e w2⟨rfl,rfl⟩;go_wp2
  go_ret
  exact⟨rfl,(zC _ _).alloc (zD _) _⟩
 .dsimp only at b c;rw[fW a]at C1;rw[fW b]at C2;have f1:decide ((t.size:Int)<=250)=true:=decide_eq_true (by omega);clear a b c;go_enter func92,ntmps92
  go_wp2_with fail
  refine(uh C1 _).mono ?_;rintro e w2⟨rfl,rfl⟩;go_wp2_with fail
  refine(uh C2 _).mono ?_;rintro e w2⟨rfl,rfl⟩;go_wp2
  go_ret
  exact⟨rfl,(zC _ _).alloc (zD _) _⟩
theorem jh(x:Int)(w:World):Calls prog 94 #[x] w fun e w'=>e=.returned (.bool (decide (0<=x)&&decide (x<=255)))/\w'=w:=by
 have C:=aa fun v=>jM x 0 v
 go_enter func94,ntmps94
 go_wp2_with fail
 refine cq (uh C _) ?_;go_wp2
 go_ret
 exact⟨rfl,rfl⟩
theorem d7(x y:Int)(t:ByteArray)(w:World):Calls prog 74 #[.agg #[x,y,t]] w fun e w'=>e=.returned (.bool (Op.pok ⟨x,y,t⟩))/\Below w w w':=by
 have C1:=aa fun v=>jh x v
 have C2:=aa fun v=>jh y v
 obtain⟨R,hR⟩ := ex (Op.pok ⟨x,y,t⟩);rw[hR];refine lm ⟨x,y,t⟩ _ (fun a r=>?_) (fun a b r=>?_) (fun a b c r=>?_) (fun a b c r=>?_)
 all_goals
  dsimp only at a;rw[hR]at r;subst r;clear hR
 .rw [ki a]at C1;clear a C2;go_enter func74,ntmps74
  go_wp2_with (first
   | (go_at_call 94;refine(uh C1 _).mono ?_;rintro e w2⟨rfl,rfl⟩))
  go_ret
  exact⟨rfl,(zC _ _).alloc (zD _) _⟩
 .dsimp only at b;rw[fW a]at C1;rw[ki b]at C2;clear a b;go_enter func74,ntmps74
  go_wp2_with fail
  refine(uh C1 _).mono ?_;rintro e w2⟨rfl,rfl⟩;go_wp2_with fail
  refine(uh C2 _).mono ?_;rintro e w2⟨rfl,rfl⟩;go_wp2
  go_ret
  exact⟨rfl,(zC _ _).alloc (zD _) _⟩
 .dsimp only at b c;rw[fW a]at C1;rw[fW b]at C2;have f1:decide ((t.size:Int)<=250)=false:=decide_eq_false (by omega);clear a b c;go_enter func74,ntmps74
  go_wp2_with fail
  refine(uh C1 _).mono ?_;rintro e w2⟨rfl,rfl⟩;go_wp2_with fail
  refine(uh C2 _).mono ?_;rintro e w2⟨rfl,rfl⟩;go_wp2
  go_ret
  exact⟨rfl,(zC _ _).alloc (zD _) _⟩
 .dsimp only at b c;rw[fW a]at C1;rw[fW b]at C2;have f1:decide ((t.size:Int)<=250)=true:=decide_eq_true (by omega);clear a b c;go_enter func74,ntmps74
  go_wp2_with fail
  refine(uh C1 _).mono ?_;rintro e w2⟨rfl,rfl⟩;go_wp2_with fail
  refine(uh C2 _).mono ?_;rintro e w2⟨rfl,rfl⟩;go_wp2
  go_ret
  exact⟨rfl,(zC _ _).alloc (zD _) _⟩
theorem nE(h:0<=x/\x<=255):∃c:UInt8,x=(c.toNat:Int)/\UInt8.ofNat x.toNat=c:=by
 refine⟨UInt8.ofNat x.toNat,?_,rfl⟩;have:(UInt8.ofNat x.toNat).toNat=x.toNat:=by simp;omega
 omega
theorem nF(h:Op.pok p=true):∃a b:UInt8,p.code=(a.toNat:Int)/\p.id=(b.toNat:Int)/\p.data.size<=250/\Op.phead p=[a,b,UInt8.ofNat ((p.data.size+4) / 256),UInt8.ofNat (p.data.size+4)]:=by
 have h':=of_decide_eq_true h;obtain⟨a,ha,ha2⟩:=nE (x:=p.code) ⟨h'.1,h'.2.1⟩;obtain⟨b,hb,hb2⟩:=nE (x:=p.id) ⟨h'.2.2.1,h'.2.2.2.1⟩;refine⟨a,b,ha,hb,h'.2.2.2.2,?_⟩;unfold Op.phead;rw[ha2,hb2]
theorem wB8:∀c:UInt8,IntKind.u8.wrap (c.toNat:Int)=(c.toNat:Int):=fun c=>by rw[IntKind.wrap_u8];have:=c.toNat_lt;omega
theorem mB8:∀c:UInt8,(c.toNat:Int)%256=(c.toNat:Int):=fun c=>by have:=c.toNat_lt;omega
def rE(p:Op.Pk):ByteArray:=co (Op.ptold p)
theorem mH(h:Op.pok p=false):rE p=⟨#[]⟩:=by unfold rE Op.ptold;rw[if_neg (by rw[h];decide)];rfl
theorem kj(h:Op.pok p=true):rE p=co (Op.phead p)++p.data:=by
 unfold rE Op.ptold;rw[if_pos h,je];rfl
theorem lq(p:Op.Pk)(w:World):Calls prog 252 #[.agg #[p.code,p.id,p.data]] w fun e w'=>e=.returned (.string (rE p))/\Below w w w':=by
 cases hk:Op.pok p
 .rw [mH hk];obtain⟨x,y,t⟩:=p;have C:=aa fun v=>dZ x y t v
  rw[hk]at C;dsimp only;clear hk;go_enter func252,ntmps252
  go_wp2_with (first
   | (go_at_call 92;refine(uh C _).mono ?_;rintro e w2⟨rfl,hb2⟩))
  go_ret
  exact⟨rfl,((zC _ _).alloc (zD _) _).trans (hb2.mono (by simp))⟩
 .rw [kj hk];obtain⟨a,b,e1,e2,e3,e4⟩:=nF hk;obtain⟨x,y,t⟩:=p;dsimp only at e1 e2 e3 e4|-;subst e1 e2;have C:=aa fun v=>dZ (a.toNat:Int) (b.toNat:Int) t v
  rw[hk]at C;have C2:=aa fun v=>uC (4+t.size) (by omega) v
  rw[show((4+t.size:Nat):Int)=4+(t.size:Int)by omega,show 4+t.size=t.size+4 by omega]at C2;rw[e4];generalize UInt8.ofNat ((t.size+4) / 256)=hi at*;generalize UInt8.ofNat (t.size+4)=lo at*;have wb:=wB8;have mb:=mB8;clear e4 hk;go_enter func252,ntmps252
  go_wp2_with fail
  refine(uh C _).mono ?_;rintro e w2⟨rfl,hb2⟩;have hsz:(w.alloc (.cells #[a.toNat,b.toNat,t] 85)).heap.size=w.heap.size+1:=by simp
  have hO2:w2.heap[w.heap.size]?=some (.cells #[a.toNat,b.toNat,t] 85):=(hb2.block w (by rw[hsz];omega)).trans (zF w _);have hlt2:w.heap.size<w2.heap.size:=(ge.1 hO2).1;have hB2:Below w w w2:=((zC _ _).alloc (zD _) _).trans (hb2.mono (by rw[hsz];omega));have c0:w2.cell? (w,0)=some (.int .i64 a.toNat):=cv hO2
  have c1:w2.cell? (w,1)=some (.int .i64 b.toNat):=cv hO2
  have c2:w2.cell? (w,2)=some (.string t):=cv hO2
  clear hb2 hO2 C;go_wp2_with fail
  refine(uh C2 _).mono ?_;rintro e w3⟨rfl,hw3⟩;have hb3:Below w2 w2 w3:=by rw[hw3];exact(zC _ _).alloc (zD _) _
  have hB3:=hB2.trans (hb3.mono hB2.size);have k0:=(hb3.cell (p:=(w,0)) hlt2).trans c0;have k1:=(hb3.cell (p:=(w,1)) hlt2).trans c1;have k2:=(hb3.cell (p:=(w,2)) hlt2).trans c2;have hs3:=hb3.size;have hl3:w.heap.size<w3.heap.size:=by omega
  have hl3':¬(w.heap.size=w3.heap.size):=by omega
  clear hw3 hb3 c0 c1 c2 C2;have hown:((w3.alloc (.cells #[.int .u8 hi.toNat,.int .u8 lo.toNat] 306)).alloc (.cells #[.int .u8 a.toNat,.int .u8 b.toNat,.int .u8 hi.toNat,.int .u8 lo.toNat] 5)).ownsRow w 5 1 (.slice (some (w3.heap.size+1,0)) 4 4) [a,b,hi,lo].length (dg [a,b,hi,lo]):=by
   have h:((w3.alloc (.cells #[.int .u8 hi.toNat,.int .u8 lo.toNat] 306)).alloc (.cells #[.int .u8 a.toNat,.int .u8 b.toNat,.int .u8 hi.toNat,.int .u8 lo.toNat] 5)).ownsRow w 5 1 (.slice (some ⟨(w3.alloc (.cells #[.int .u8 hi.toNat,.int .u8 lo.toNat] 306)).heap.size,0,none⟩) 4 4) 4 (#[.int .u8 a.toNat,.int .u8 b.toNat,.int .u8 hi.toNat,.int .u8 lo.toNat]:Array Value).toList:=World.ownsRow_lit _ _ 4 (by simp;omega) (by decide) rfl;rw[show(w3.alloc (.cells #[.int .u8 hi.toNat,.int .u8 lo.toNat] 306)).heap.size=w3.heap.size+1 by simp]at h;exact h
  have HOW:=aa hown;clear hown
  go_wp2_with (first
   | (at_builtin;refine jc rfl _ _ rfl w (.slice (some (w3.heap.size+1,0)) 4 4) [a,b,hi,lo] rfl HOW.out t rfl (by simp;omega) (by simp;omega) ?_;rintro v4 w4 ho4 hb4;replace ho4:w4.ownsRow w 5 1 v4 (4+t.size) (dg ([a,b,hi,lo]++t.data.toList)):=ho4;obtain⟨ad,cp,rfl⟩:=af ho4;have hcv:=eK ho4;clear ho4 HOW))
  go_ret
  have ht4:co [a,b,hi,lo]++t=co (a::b::hi::lo::t.data.toList):=(je [a,b,hi,lo] t.data.toList).symm;refine⟨by rw[ht4];rfl,((hB3.alloc hB3.size _).alloc (by simp;omega) _).trans hb4⟩
theorem lu(p:Op.Pk)(w:World):Calls prog 105 #[.agg #[p.code,p.id,p.data]] w fun e w'=>e=.returned (.string (rE p))/\Below w w w':=by
 cases hk:Op.pok p
 .rw [mH hk];obtain⟨x,y,t⟩:=p;have C:=aa fun v=>d7 x y t v
  rw[hk]at C;dsimp only;clear hk;go_enter func105,ntmps105
  go_wp2_with (first
   | (go_at_call 74;refine(uh C _).mono ?_;rintro e w2⟨rfl,hb2⟩))
  go_ret
  exact⟨rfl,((zC _ _).alloc (zD _) _).trans (hb2.mono (by simp))⟩
 .rw [kj hk];obtain⟨a,b,e1,e2,e3,e4⟩:=nF hk;obtain⟨x,y,t⟩:=p;dsimp only at e1 e2 e3 e4|-;subst e1 e2;have C:=aa fun v=>d7 (a.toNat:Int) (b.toNat:Int) t v
  rw[hk]at C;have HH:=nC (k:=t.size+4) (by omega);have HL:=nD (t.size+4);rw[show((t.size+4:Nat):Int)=(t.size:Int)+4 by omega]at HH HL;rw[e4];generalize UInt8.ofNat ((t.size+4) / 256)=hi at*;generalize UInt8.ofNat (t.size+4)=lo at*;have wb:=wB8;have mb:=mB8;have HHH:=aa HH;have HLL:=aa HL;clear e4 hk HH HL;go_enter func105,ntmps105
  go_wp2_with fail
  refine(uh C _).mono ?_;rintro e w2⟨rfl,hb2⟩;have hsz:(w.alloc (.cells #[a.toNat,b.toNat,t] 85)).heap.size=w.heap.size+1:=by simp
  have hO2:w2.heap[w.heap.size]?=some (.cells #[a.toNat,b.toNat,t] 85):=(hb2.block w (by rw[hsz];omega)).trans (zF w _);have hlt2:w.heap.size<w2.heap.size:=(ge.1 hO2).1;have hB2:Below w w w2:=((zC _ _).alloc (zD _) _).trans (hb2.mono (by rw[hsz];omega));have c0:w2.cell? (w,0)=some (.int .i64 a.toNat):=cv hO2
  have c1:w2.cell? (w,1)=some (.int .i64 b.toNat):=cv hO2
  have c2:w2.cell? (w,2)=some (.string t):=cv hO2
  have hlt2':¬(w.heap.size=w2.heap.size):=by omega
  obtain⟨Z,hZ,hcv,hcat⟩:∃Z,Hid (Z=co [a,b,hi,lo])/\(convert 22 9 (.slice (some (w2,0)) 4 4)).run prog (w2.alloc (.cells #[.int .u8 a.toNat,.int .u8 b.toNat,.int .u8 (((t.size:Int)+4) / 256),.int .u8 ((t.size:Int)+4)] 5))=.ok Z (w2.alloc (.cells #[.int .u8 a.toNat,.int .u8 b.toNat,.int .u8 (((t.size:Int)+4) / 256),.int .u8 ((t.size:Int)+4)] 5))/\¬(9223372036854775807<Z.size+t.size):=by
   refine⟨_,aa rfl,?_,by rw[eJ];simp;omega⟩;have hlo:(t.size:Int)+4=(lo.toNat:Int):=by
    have:=uh HLL
    omega
   rw[uh HHH,hlo];have h:(w2.alloc (.cells #[.int .u8 a.toNat,.int .u8 b.toNat,.int .u8 hi.toNat,.int .u8 lo.toNat] 5)).ownsRow w2 5 1 (.slice (some (w2,0)) 4 4) 4 (#[.int .u8 a.toNat,.int .u8 b.toNat,.int .u8 hi.toNat,.int .u8 lo.toNat]:Array Value).toList:=World.ownsRow_lit _ _ 4 (zD _) (by decide) rfl;exact eK (l:=[a,b,hi,lo]) h
  clear hb2 hO2 C HHH HLL;go_wp2
  go_ret
  refine⟨by rw[uh hZ];rfl,hB2.alloc hB2.size _⟩
def gc(b:Bool)(x:Int):Int:=if b then 2 else x
theorem gk(b:Bool)(x:Int)(w:World):Calls prog 172 #[b,x] w fun e w'=>e=.returned (.int .i64 (gc b x))/\w'=w:=by
 cases b
 .go_enter func172,ntmps172
  go_wp2
  go_ret
  exact⟨rfl,rfl⟩
 .go_enter func172,ntmps172
  go_wp2
  go_ret
  exact⟨rfl,rfl⟩
def fv(g:Nat):Nat:=max 1 ((g+77)%4294967296)
theorem tF(g:Nat)(h:g<4294967296):bits .and .i64 ((g:Int)+77) 4294967295=(((g+77)%4294967296:Nat):Int):=by
 show IntKind.i64.wrap ((BitVec.ofInt 64 ((g:Int)+77) &&& BitVec.ofInt 64 4294967295).toNat:Int)=_
 rw[show(g:Int)+77=((g+77:Nat):Int)by omega,BitVec.toNat_and,ofInt_u64 (g+77) (by omega),show(BitVec.ofInt 64 4294967295).toNat=2 ^ 32-1 by decide,Nat.and_two_pow_sub_one_eq_mod,IntKind.wrap_i64];omega
theorem mI(g:Nat)(w:World)(h:g<4294967296):Calls prog 183 #[g] w fun e w'=>e=.returned (.int .i64 (fv g:Nat))/\w'=w:=by
 have ha:=tF g h;have HM:Hid (((fv g:Nat):Int)=max 1 (((g+77)%4294967296:Nat):Int)):=aa (by unfold fv;omega);generalize (g+77)%4294967296=r at*;rw[uh HM];clear HM;go_enter func183,ntmps183
 go_wp2
 all_goals
  go_ret
  exact⟨j8 (by omega),rfl⟩
theorem uE(m a g:Int)(p c d:Bool)(n:Int)(w:World):Calls prog 171 #[cN m a g p c d,n] w fun e w'=>e=.returned (.tuple #[.int .i64 (gc (bh 64 300 n) 3),m])/\Below w w w':=by
 have C1:=aa fun v=>iY n v
 generalize bh 64 300 n=ok at*;have C2:=aa fun v=>gk ok 3 v
 go_enter func171,ntmps171
 go_wp2_with fail
 go_quiet ((first
  | (go_at_call 36;exact Calls.quiet_of_same (uh C1 _))
  | (go_at_call 172;exact Calls.quiet_of_same (uh C2 _))))
 go_wp2
 go_ret2
 exact⟨rfl,aH ((zC _ _).alloc (zD _) _) _⟩
theorem uF(m a g:Nat)(p c d:Bool)(n:Nat)(w:World)(ha:a<4294967296)(hn:n<4294967296):Calls prog 177 #[cN m a g p c d,n] w fun e w'=>e=.returned (.tuple #[.int .i64 (gc (((n ||| a:Nat):Int)==(n:Int)) 3),.int .i64 (n ||| a:Nat)])/\Below w w w':=by
 have ho:=iZ n a hn ha;have C2:=aa fun v=>gk (((n ||| a:Nat):Int)==(n:Int)) 3 v
 generalize n ||| a=x at*
 go_enter func177,ntmps177
 go_wp2_with fail
 go_quiet ((first
  | (go_at_call 172;exact Calls.quiet_of_same (uh C2 _))))
 go_wp2
 go_ret2
 exact⟨rfl,aH ((zC _ _).alloc (zD _) _) _⟩
theorem uG(m a g:Nat)(p c d:Bool)(n:Nat)(w:World)(hg:g<4294967296):Calls prog 182 #[cN m a g p c d,n] w fun e w'=>e=.returned (.tuple #[.int .i64 (gc ((n:Int) != 0&&(n:Int) != (g:Int)) 3),.int .i64 (fv g:Nat)])/\Below w w w':=by
 have C1:=aa fun v=>mI g v hg
 generalize fv g=x at*;cases hq:((n:Int) != 0)
 .have C2:=aa fun v=>gk false 3 v
  rw[Bool.false_and];go_enter func182,ntmps182
  go_wp2_with fail
  go_quiet ((first
   | (go_at_call 183;exact Calls.quiet_of_same (uh C1 _))
   | (go_at_call 172;exact Calls.quiet_of_same (uh C2 _))))
  go_wp2
  go_ret2
  exact⟨rfl,aH ((zC _ _).alloc (zD _) _) _⟩
 .have C2:=aa fun v=>gk ((n:Int) != (g:Int)) 3 v
  rw[Bool.true_and];go_enter func182,ntmps182
  go_wp2_with fail
  go_quiet ((first
   | (go_at_call 183;exact Calls.quiet_of_same (uh C1 _))
   | (go_at_call 172;exact Calls.quiet_of_same (uh C2 _))))
  go_wp2
  go_ret2
  exact⟨rfl,aH ((zC _ _).alloc (zD _) _) _⟩
theorem uH(m a g:Int)(p c d:Bool)(n:Int)(w:World):Calls prog 188 #[cN m a g p c d,n] w fun e w'=>e=.returned (.tuple #[.int .i64 (gc p 4),(0:Int)])/\Below w w w':=by
 have C2:=aa fun v=>gk p 4 v
 go_enter func188,ntmps188
 go_wp2_with (first|(go_at_call 172;refine(uh C2 _).mono ?_;rintro e w1⟨rfl,rfl⟩))
 go_ret2
 exact⟨rfl,(zC _ _).alloc (zD _) _⟩
theorem uI(m a g:Int)(p c d:Bool)(n:Int)(w:World):Calls prog 193 #[cN m a g p c d,n] w fun e w'=>e=.returned (.tuple #[.int .i64 (gc c 4),(0:Int)])/\Below w w w':=by
 have C2:=aa fun v=>gk c 4 v
 go_enter func193,ntmps193
 go_wp2_with (first|(go_at_call 172;refine(uh C2 _).mono ?_;rintro e w1⟨rfl,rfl⟩))
 go_ret2
 exact⟨rfl,(zC _ _).alloc (zD _) _⟩
theorem uJ(m a g:Int)(p c d:Bool)(n:Int)(w:World):Calls prog 198 #[cN m a g p c d,n] w fun e w'=>e=.returned (.tuple #[.int .i64 (gc (n==2||(n==4&&d)) 3),(2:Int)])/\Below w w w':=by
 have C2:=aa fun b v=>gk b 3 v
 cases hq:(n==2)
 .cases hr:(n==4)
  .rw [Bool.false_and,Bool.false_or];go_enter func198,ntmps198
   go_wp2_with (first|(go_at_call 172;refine(uh C2 _ _).mono ?_;rintro e w1⟨rfl,rfl⟩))
   go_ret2
   exact⟨rfl,(zC _ _).alloc (zD _) _⟩
  .rw [Bool.true_and,Bool.false_or];go_enter func198,ntmps198
   go_wp2_with (first|(go_at_call 172;refine(uh C2 _ _).mono ?_;rintro e w1⟨rfl,rfl⟩))
   go_ret2
   exact⟨rfl,(zC _ _).alloc (zD _) _⟩
 .rw [Bool.true_or];go_enter func198,ntmps198
  go_wp2_with (first|(go_at_call 172;refine(uh C2 _ _).mono ?_;rintro e w1⟨rfl,rfl⟩))
  go_ret2
  exact⟨rfl,(zC _ _).alloc (zD _) _⟩
theorem dy{base base':Nat}{e:TypeId}{size:Nat}{v:Value}{n:Nat}{xs:List Value}(h:w.ownsRow base e size v n xs)(hb:base'<=base):w.ownsRow base' e size v n xs :=
 ⟨h.1,h.2.imp id fun⟨g,cap,cur,h1,h2,h3⟩=>⟨g,cap,cur,h1,zE hb h2,h3⟩⟩
theorem mM(m a g:Nat)(p c d:Bool)(w:World)(h:aK m a g=true):Calls prog 244 #[cN m a g p c d] w fun e w'=>∃ad cp,e=.returned (.slice ad (jZ m a g p c d 6).length cp)/\w'.ownsRow w 105 2 (.slice ad (jZ m a g p c d 6).length cp) (jZ m a g p c d 6).length (aj (jZ m a g p c d 6))/\Below w w w':=by
 have C:=aa fun v=>dm m a g p c d v
 rw[h]at C;clear h;go_enter func244,ntmps244
 go_wp2_with fail
 refine(uh C _).mono ?_;rintro e w1⟨rfl,hb1⟩;have hr1:=(hb1.block w (by simp)).trans (heap_alloc_last w (.cells #[m,a,g,p,c,d] 24));have hB1:=((zC w w).alloc (zD _) (.cells #[m,a,g,p,c,d] 24)).trans (hb1.mono (by simp));clear hb1 C;go_wp2_with fail
 refine(dF _).mono ?_;rintro e w2⟨rfl,hm2,hb2⟩;have hr2:=(hb2.block w (ge.1 hr1).1).trans hr1;have hB2:=hB1.trans (hb2.mono hB1.size);have hc1:w.heap.size<w2.heap.size:=(ge.1 hr2).1;have hc2:w1.heap.size<w2.heap.size:=(ge.1 hm2).1;generalize w1.heap.size=M at*;have HR2:=aa hr2;have HM2:=aa hm2;have HB2:=aa hB2;clear hr1 hr2 hm2 hB1 hB2 hb2;go_wp2_with fail
 go_loopw [4,15] (fun x y wr=>∃(i:Nat)(ad:Option Addr)(cp:Nat),i<=6/\y=.int .i64 i/\x=.slice ad (jZ m a g p c d i).length cp/\wr.ownsRow w2 105 2 (.slice ad (jZ m a g p c d i).length cp) (jZ m a g p c d i).length (aj (jZ m a g p c d i))/\Below w2 w2 wr) (fun _ y _=>6-(intOf y).toNat)
 case atStart=>exact⟨0,none,0,by omega,rfl,rfl,⟨rfl,Or.inl ⟨rfl,rfl⟩⟩,zC _ _⟩
 case round =>
  obtain⟨i,ad,cp,hi,rfl,rfl,ho,hb⟩:=hrel;by_cases hlt:i<6
  .have d1:(i:Int)<6:=by omega
   obtain⟨k,s,f,f2,f3,f4,f5,n,j,b,t,hR⟩:=sf m a g p c d i hlt;have hix:=hR.ix;have hcf:=hR.cf;have hlk:=rV wr M cI 6 j k _ ((hb.block M hc2).trans HM2.out) hR.fd;have hcr:=(hb.block w hc1).trans HR2.out;obtain⟨c0,c1,c2,c3,c4,c5⟩:=aJ hcr;have hbs:=hb.size;have HR:=aa hR;have HO:=aa ho;have HB:=aa hb;have hln:=dp m a g p c d i;clear hR ho hb c0 c1 c2 c3 c4 c5;go_upto_region 9 with fail
   refine bb (fun q=>q.heap[wr.heap.size]?=some (.cells #[s,cY f,cY f2,cY f3,cY f4,cY f5] 191)/\q.heap[w.heap.size]?=some (.cells #[m,a,g,p,c,d] 24)/\Below wr wr q)
    ⟨zF wr _,(zG _ _ _ (by omega)).trans hcr,(zC _ _).alloc (zD _) _⟩ ?_
   rintro q⟨hrq,hcq,hbq⟩;obtain⟨c0,c1,c2,c3,c4,c5⟩:=aJ hcq;obtain⟨r0,r1,r2,r3,r4,r5⟩:=aJ hrq;have HQ:=aa (zA hrq hbq);clear hcr hcq hrq hbq;go_wp2_with fail
   refine(HR.out.ask _).mono ?_;rintro e w3⟨rfl,hb3⟩;have hR3:=(hb3.block wr (ge.1 HQ.out.1).1).trans HQ.out.1;have hbw:Below wr wr w3:=HQ.out.2.trans (hb3.mono HQ.out.2.size);have HO3:=aa (aY HO.out fun q _ hq=>hbw.block q hq);have HB3:=aa (HB.out.trans (hbw.mono hbs));clear hb3 HO HB r0 r1 r2 r3 r4 r5 HQ;obtain⟨r0,r1,r2,r3,r4,r5⟩:=aJ hR3;have hbs3:=zE hbs hbw.size;clear hR3 hbw r1 r2 r3 r4 r5 c0 c1 c2 c3 c4 c5 hix hlk hcf;have hls:=HR.out.lst;have HLS:=aa hls;clear hls;cases b
   .go_wp2_with fail
    go_roundw
    case rel =>
     refine⟨i+1,ad,cp,by omega,by go_num,?_,?_,uh HB3⟩
     .rw [uh HLS,dG,List.append_nil]
     .rw [uh HLS,dG,List.append_nil];exact uh HO3
    case measure=>simp[intOf];omega
   .go_wp2_with fail
    refine(HR.out.num _).mono ?_;rintro e w4⟨rfl,hb4⟩;have HO4:=aa (aY HO3.out fun q _ hq=>hb4.block q hq);have HB4:=aa (HB3.out.trans (hb4.mono hbs3));have hbs4:=zE hbs3 hb4.size;clear hb4 HO3 HB3 r0;go_wp2_with (first|(at_builtin;refine cD rfl _ _ rfl w2 (.slice ad (jZ m a g p c d i).length cp) (jZ m a g p c d i) (jZ m a g p c d i).length rfl rfl HO4.out k t rfl (by omega) hbs4 ?_;rintro v6 w6 ho6 hg6;obtain⟨a6,c6,rfl⟩:=af ho6))
    have hb6:Below w2 w2 w6:=(HB4.out.alloc hbs4 _).grown hg6 (by simp;omega) (fun q hq=>(World.ownsRow.lt HO4.out q hq).1);go_roundw
    case rel =>
     have hl1:(jZ m a g p c d i).length+1=(jZ m a g p c d (i+1)).length:=by rw[uh HLS,bD,List.length_append];rfl
     refine⟨i+1,a6,c6,by omega,by go_num,?_,?_,hb6⟩
     .rw [<- hl1]
     .rw [<- hl1,uh HLS,bD];exact ho6
    case measure=>simp[intOf];omega
  .have e:i=6:=by omega
   subst e;have d1:¬(((6:Nat):Int)<6):=by omega
   have hB2:=uh HB2;have ho6:=dy ho hB2.size;have hb6:=hB2.trans (hb.mono hB2.size);clear HR2 HM2 HB2;go_wp2
   go_ret
   exact⟨ad,cp,rfl,ho6,hb6⟩
def km(L:List Op.Opt)(base:Nat)(w0:World)(v:Value)(wx:World):Prop :=
 ∃ad cp,v=.slice ad L.length cp/\wx.ownsRow base 105 2 (ad,L.length,cp) L.length (aj L)/\Below base w0 wx
theorem wy(m a g:Nat)(p c d:Bool):jZ m a g p c d 1=jZ m a g p c d 0++c_ ((m:Int) != 300) 1 (ji m):=by simp[jZ,eZ]
theorem wz(m a g:Nat)(p c d:Bool):jZ m a g p c d 2=jZ m a g p c d 1++c_ ((a:Int) != 4294967295) 2 (cK a):=by simp[jZ,eZ]
theorem wA(m a g:Nat)(p c d:Bool):jZ m a g p c d 3=jZ m a g p c d 2++c_ ((g:Int) != 0) 5 (cK g):=by simp[jZ,eZ]
theorem wB(m a g:Nat)(p c d:Bool):jZ m a g p c d 4=jZ m a g p c d 3++c_ (p) 7 (⟨#[]⟩):=by simp[jZ,eZ]
theorem wC(m a g:Nat)(p c d:Bool):jZ m a g p c d 5=jZ m a g p c d 4++c_ (c) 8 (⟨#[]⟩):=by simp[jZ,eZ]
theorem wD(m a g:Nat)(p c d:Bool):jZ m a g p c d 6=jZ m a g p c d 5++c_ (d) 9 (fu 4):=by simp[jZ,eZ]
theorem sD(m a g:Nat)(p c d:Bool)(w:World):Calls prog 99 #[cN m a g p c d] w fun e w'=>∃v,e=.returned v/\km (jZ m a g p c d 6) w w v w':=by
 have HC0:Hid ((w.alloc (.cells #[m,a,g,p,c,d] 24)).heap[w.heap.size]?=some (.cells #[m,a,g,p,c,d] 24)):=aa (heap_alloc_last w _);have hB0:Below w w (w.alloc (.cells #[m,a,g,p,c,d] 24)):=(zC _ _).alloc (zD _) _;have HB0:=aa hB0;have hs0:(w.alloc (.cells #[m,a,g,p,c,d] 24)).heap.size=w.heap.size+1:=by simp
 have HS0:=aa hs0;clear hB0 hs0;go_enter func99,ntmps99
 go_upto_region 2 with fail
 have hA0:km (jZ m a g p c d 0) (w.heap.size+1) (w.alloc (.cells #[m,a,g,p,c,d] 24)) (.slice (some (w.heap.size+1,0)) 0 0) ((w.alloc (.cells #[m,a,g,p,c,d] 24)).alloc (.cells #[] 105)):=by
  refine⟨_,_,rfl,?_,(zC _ _).alloc (by rw[uh HS0];exact zD _) _⟩;have:=World.ownsRow_lit (w.alloc (.cells #[m,a,g,p,c,d] 24)) (base:=w.heap.size+1) (e:=105) (size:=2) #[] 0 (by rw[uh HS0];exact zD _) (Nat.zero_le _) rfl
  rw[uh HS0]at this;exact this
 refine bb (fun q=>km (jZ m a g p c d 0) (w.heap.size+1) (w.alloc (.cells #[m,a,g,p,c,d] 24)) (.slice (some (w.heap.size+1,0)) 0 0) q) hA0 ?_;clear hA0;rintro q0 hA;generalize (w.alloc (.cells #[m,a,g,p,c,d] 24))=W0 at*;obtain⟨ad0,cp0,hv0,ho,hb⟩:=hA;have HO:=aa ho;have HB:=aa hb;rw[hv0];clear ho hb hv0;have hbs:=HB.out.size;rw[uh HS0]at hbs;have hc:=(HB.out.block w (Nat.lt_succ_self _)).trans HC0.out;obtain⟨c0,c1,c2,c3,c4,c5⟩:=aJ hc;have hln:=dp m a g p c d 0;clear hc;go_upto_if 7 with fail
 have HSL:=aa (wy m a g p c d);generalize ((m:Int) != 300)=b at*;go_cut [3] (fun v wx=>km (jZ m a g p c d 1) (w.heap.size+1) W0 v wx)
 case first =>
  generalize jZ m a g p c d 0=L at*;generalize jZ m a g p c d 1=L1 at*;have HLT:=aa (congrArg List.length HSL.out);cases b
  .rw [dG,List.append_nil]at HSL;clear HLT;go_wp2_with fail
   go_meet;rw[uh HSL];exact⟨_,_,rfl,uh HO,uh HB⟩
  .go_wp2_with fail
   refine(tD m _).mono ?_;rintro e w4⟨rfl,hb4⟩;have HO4:=aa (aY HO.out fun q _ hq=>hb4.block q hq);have HB4:=aa (HB.out.trans (hb4.mono hbs));have hbs4:=zE hbs hb4.size;clear hb4 HO HB c0 c1 c2 c3 c4 c5;go_wp2_with (first|(at_builtin;refine cD rfl _ _ rfl (w.heap.size+1) (ad0,L.length,cp0) L L.length rfl rfl HO4.out 1 (ji m) rfl (by omega) hbs4 ?_;rintro v6 w6 ho6 hg6;obtain⟨a6,c6,rfl⟩:=af ho6))
   have hb6:Below (w.heap.size+1) W0 w6:=(HB4.out.alloc hbs4 _).grown hg6 (by simp;omega) (fun q hq=>(World.ownsRow.lt HO4.out q hq).1);go_meet;have hl1:L.length+1=L1.length:=by rw[uh HLT,bD,List.length_append];rfl
   refine⟨a6,c6,by rw[<- hl1],?_,hb6⟩;rw[<- hl1,uh HSL,bD];exact ho6
 case rest =>
  obtain⟨ad1,cp1,hu,ho,hb⟩:=hcut;subst hu;clear HO HB hbs c0 c1 c2 c3 c4 c5 hln HSL;have HO:=aa ho;have HB:=aa hb;clear ho hb;have hbs:=HB.out.size;rw[uh HS0]at hbs;have hc:=(HB.out.block w (Nat.lt_succ_self _)).trans HC0.out;obtain⟨c0,c1,c2,c3,c4,c5⟩:=aJ hc;have hln:=dp m a g p c d 1;clear hc;go_upto_if 17 with fail
  have HSL:=aa (wz m a g p c d);generalize ((a:Int) != 4294967295)=b at*;go_cut [3] (fun v wx=>km (jZ m a g p c d 2) (w.heap.size+1) W0 v wx)
  case first =>
   generalize jZ m a g p c d 1=L at*;generalize jZ m a g p c d 2=L1 at*;have HLT:=aa (congrArg List.length HSL.out);cases b
   .rw [dG,List.append_nil]at HSL;clear HLT;go_wp2_with fail
    go_meet;rw[uh HSL];exact⟨_,_,rfl,uh HO,uh HB⟩
   .go_wp2_with fail
    refine(jR a _).mono ?_;rintro e w4⟨rfl,hb4⟩;have HO4:=aa (aY HO.out fun q _ hq=>hb4.block q hq);have HB4:=aa (HB.out.trans (hb4.mono hbs));have hbs4:=zE hbs hb4.size;clear hb4 HO HB c0 c1 c2 c3 c4 c5;go_wp2_with (first|(at_builtin;refine cD rfl _ _ rfl (w.heap.size+1) (ad1,L.length,cp1) L L.length rfl rfl HO4.out 2 (cK a) rfl (by omega) hbs4 ?_;rintro v6 w6 ho6 hg6;obtain⟨a6,c6,rfl⟩:=af ho6))
    have hb6:Below (w.heap.size+1) W0 w6:=(HB4.out.alloc hbs4 _).grown hg6 (by simp;omega) (fun q hq=>(World.ownsRow.lt HO4.out q hq).1);go_meet;have hl1:L.length+1=L1.length:=by rw[uh HLT,bD,List.length_append];rfl
    refine⟨a6,c6,by rw[<- hl1],?_,hb6⟩;rw[<- hl1,uh HSL,bD];exact ho6
  case rest =>
   obtain⟨ad2,cp2,hu,ho,hb⟩:=hcut;subst hu;clear HO HB hbs c0 c1 c2 c3 c4 c5 hln HSL;have HO:=aa ho;have HB:=aa hb;clear ho hb;have hbs:=HB.out.size;rw[uh HS0]at hbs;have hc:=(HB.out.block w (Nat.lt_succ_self _)).trans HC0.out;obtain⟨c0,c1,c2,c3,c4,c5⟩:=aJ hc;have hln:=dp m a g p c d 2;clear hc;go_upto_if 27 with fail
   have HSL:=aa (wA m a g p c d);generalize ((g:Int) != 0)=b at*;go_cut [3] (fun v wx=>km (jZ m a g p c d 3) (w.heap.size+1) W0 v wx)
   case first =>
    generalize jZ m a g p c d 2=L at*;generalize jZ m a g p c d 3=L1 at*;have HLT:=aa (congrArg List.length HSL.out);cases b
    .rw [dG,List.append_nil]at HSL;clear HLT;go_wp2_with fail
     go_meet;rw[uh HSL];exact⟨_,_,rfl,uh HO,uh HB⟩
    .go_wp2_with fail
     refine(jR g _).mono ?_;rintro e w4⟨rfl,hb4⟩;have HO4:=aa (aY HO.out fun q _ hq=>hb4.block q hq);have HB4:=aa (HB.out.trans (hb4.mono hbs));have hbs4:=zE hbs hb4.size;clear hb4 HO HB c0 c1 c2 c3 c4 c5;go_wp2_with (first|(at_builtin;refine cD rfl _ _ rfl (w.heap.size+1) (ad2,L.length,cp2) L L.length rfl rfl HO4.out 5 (cK g) rfl (by omega) hbs4 ?_;rintro v6 w6 ho6 hg6;obtain⟨a6,c6,rfl⟩:=af ho6))
     have hb6:Below (w.heap.size+1) W0 w6:=(HB4.out.alloc hbs4 _).grown hg6 (by simp;omega) (fun q hq=>(World.ownsRow.lt HO4.out q hq).1);go_meet;have hl1:L.length+1=L1.length:=by rw[uh HLT,bD,List.length_append];rfl
     refine⟨a6,c6,by rw[<- hl1],?_,hb6⟩;rw[<- hl1,uh HSL,bD];exact ho6
   case rest =>
    obtain⟨ad3,cp3,hu,ho,hb⟩:=hcut;subst hu;clear HO HB hbs c0 c1 c2 c3 c4 c5 hln HSL;have HO:=aa ho;have HB:=aa hb;clear ho hb;have hbs:=HB.out.size;rw[uh HS0]at hbs;have hc:=(HB.out.block w (Nat.lt_succ_self _)).trans HC0.out;obtain⟨c0,c1,c2,c3,c4,c5⟩:=aJ hc;have hln:=dp m a g p c d 3;clear hc;go_upto_if 36 with fail
    have HSL:=aa (wB m a g p c d);go_cut [3] (fun v wx=>km (jZ m a g p c d 4) (w.heap.size+1) W0 v wx)
    case first =>
     generalize jZ m a g p c d 3=L at*;generalize jZ m a g p c d 4=L1 at*;have HLT:=aa (congrArg List.length HSL.out);cases p
     .rw [dG,List.append_nil]at HSL;clear HLT;go_wp2_with fail
      go_meet;rw[uh HSL];exact⟨_,_,rfl,uh HO,uh HB⟩
     .clear c0 c1 c2 c3 c4 c5;go_wp2_with (first|(at_builtin;refine cD rfl _ _ rfl (w.heap.size+1) (ad3,L.length,cp3) L L.length rfl rfl HO.out 7 (⟨#[]⟩) rfl (by omega) hbs ?_;rintro v6 w6 ho6 hg6;obtain⟨a6,c6,rfl⟩:=af ho6))
      have hb6:Below (w.heap.size+1) W0 w6:=(HB.out.alloc hbs _).grown hg6 (by simp;omega) (fun q hq=>(World.ownsRow.lt HO.out q hq).1);go_meet;have hl1:L.length+1=L1.length:=by rw[uh HLT,bD,List.length_append];rfl
      refine⟨a6,c6,by rw[<- hl1],?_,hb6⟩;rw[<- hl1,uh HSL,bD];exact ho6
    case rest =>
     obtain⟨ad4,cp4,hu,ho,hb⟩:=hcut;subst hu;clear HO HB hbs c0 c1 c2 c3 c4 c5 hln HSL;have HO:=aa ho;have HB:=aa hb;clear ho hb;have hbs:=HB.out.size;rw[uh HS0]at hbs;have hc:=(HB.out.block w (Nat.lt_succ_self _)).trans HC0.out;obtain⟨c0,c1,c2,c3,c4,c5⟩:=aJ hc;have hln:=dp m a g p c d 4;clear hc;go_upto_if 42 with fail
     have HSL:=aa (wC m a g p c d);go_cut [3] (fun v wx=>km (jZ m a g p c d 5) (w.heap.size+1) W0 v wx)
     case first =>
      generalize jZ m a g p c d 4=L at*;generalize jZ m a g p c d 5=L1 at*;have HLT:=aa (congrArg List.length HSL.out);cases c
      .rw [dG,List.append_nil]at HSL;clear HLT;go_wp2_with fail
       go_meet;rw[uh HSL];exact⟨_,_,rfl,uh HO,uh HB⟩
      .clear c0 c1 c2 c3 c4 c5;go_wp2_with (first|(at_builtin;refine cD rfl _ _ rfl (w.heap.size+1) (ad4,L.length,cp4) L L.length rfl rfl HO.out 8 (⟨#[]⟩) rfl (by omega) hbs ?_;rintro v6 w6 ho6 hg6;obtain⟨a6,c6,rfl⟩:=af ho6))
       have hb6:Below (w.heap.size+1) W0 w6:=(HB.out.alloc hbs _).grown hg6 (by simp;omega) (fun q hq=>(World.ownsRow.lt HO.out q hq).1);go_meet;have hl1:L.length+1=L1.length:=by rw[uh HLT,bD,List.length_append];rfl
       refine⟨a6,c6,by rw[<- hl1],?_,hb6⟩;rw[<- hl1,uh HSL,bD];exact ho6
     case rest =>
      obtain⟨ad5,cp5,hu,ho,hb⟩:=hcut;subst hu;clear HO HB hbs c0 c1 c2 c3 c4 c5 hln HSL;have HO:=aa ho;have HB:=aa hb;clear ho hb;have hbs:=HB.out.size;rw[uh HS0]at hbs;have hc:=(HB.out.block w (Nat.lt_succ_self _)).trans HC0.out;obtain⟨c0,c1,c2,c3,c4,c5⟩:=aJ hc;have hln:=dp m a g p c d 5;clear hc;go_upto_if 48 with fail
      have HSL:=aa (wD m a g p c d);go_cut [3] (fun v wx=>km (jZ m a g p c d 6) (w.heap.size+1) W0 v wx)
      case first =>
       generalize jZ m a g p c d 5=L at*;generalize jZ m a g p c d 6=L1 at*;have HLT:=aa (congrArg List.length HSL.out);cases d
       .rw [dG,List.append_nil]at HSL;clear HLT;go_wp2_with fail
        go_meet;rw[uh HSL];exact⟨_,_,rfl,uh HO,uh HB⟩
       .clear c0 c1 c2 c3 c4 c5;go_wp2_with (first|(at_builtin;refine cD rfl _ _ rfl (w.heap.size+1) (ad5,L.length,cp5) L L.length rfl rfl HO.out 9 (fu 4) rfl (by omega) hbs ?_;rintro v6 w6 ho6 hg6;obtain⟨a6,c6,rfl⟩:=af ho6))
        have hb6:Below (w.heap.size+1) W0 w6:=(HB.out.alloc hbs _).grown hg6 (by simp;omega) (fun q hq=>(World.ownsRow.lt HO.out q hq).1);go_meet;have hl1:L.length+1=L1.length:=by rw[uh HLT,bD,List.length_append];rfl
        refine⟨a6,c6,by rw[<- hl1],?_,hb6⟩;rw[<- hl1,uh HSL,bD];exact ho6
      case rest =>
       obtain⟨ad6,cp6,hu,ho,hb⟩:=hcut;subst hu;clear HO HB hbs c0 c1 c2 c3 c4 c5 hln HSL;have HO:=aa ho;have HB:=aa hb;clear ho hb;have hB:=HB0.out.trans (HB.out.mono (Nat.le_succ _));have ho:=dy HO.out (Nat.le_succ _);clear HO HB HB0 HS0 HC0;go_wp2_with fail
       go_ret
       exact⟨_,rfl,_,_,rfl,ho,hB⟩
structure Cf where
 m:Nat
 a:Nat
 g:Nat
 p:Bool
 c:Bool
 d:Bool
abbrev dr(x:Cf):Array Value:=#[x.m,x.a,x.g,x.p,x.c,x.d]
def sw(x:Cf):Bool:=aK x.m x.a x.g
def aD(k:Int)(x:Cf)(n:Nat):Cf :=
 if k=1 then {x with m:=n} else if k=2 then {x with a:=n} else if k=5 then {x with g:=n} else if k=9 then {x with d:=x.d&&((n:Int) != 2)} else x
def lQ(k:Int)(x:Cf):Cf :=
 if k=1 then {x with m:=300} else if k=2 then {x with a:=4294967295} else if k=5 then {x with g:=0} else if k=7 then {x with p:=false} else if k=8 then {x with c:=false} else if k=9 then {x with d:=false} else x
def li(y x:Cf):Cf:=if sw y=true then y else x
def fN(x:Cf)(o:Op.Opt):Cf:=if bN o.kind=some o.data.size then li (aD o.kind x (da o.data.data.toList)) x else x
def bF(x:Cf)(F:List Op.Opt):Cf:=F.foldl fN x
def gI(x:Cf)(F:List Op.Opt):Cf:=F.foldl (fun x o=>lQ o.kind x) x
theorem jw(x:Cf)(F:List Op.Opt)(i:Nat)(hi:i<F.length):bF x (F.take (i+1))=fN (bF x (F.take i)) F[i]:=by
 unfold bF;rw[List.take_succ_eq_append_getElem hi,List.foldl_append];rfl
theorem lS(x:Cf)(F:List Op.Opt)(i:Nat)(hi:i<F.length):gI x (F.take (i+1))=lQ F[i].kind (gI x (F.take i)):=by
 unfold gI;rw[List.take_succ_eq_append_getElem hi,List.foldl_append];rfl
theorem FK(x:Cf)(n:Nat)(w:World):Calls prog 173 #[.agg (dr x),n] w fun e w'=>e=.returned (.agg (dr (aD 1 x n)))/\Below w w w':=by
 obtain⟨m,a,g,p,c,d⟩:=x;show Calls prog 173 #[.agg #[m,a,g,p,c,d],n] w fun e w'=>e=.returned (.agg #[n,a,g,p,c,d])/\Below w w w'
 go_enter func173,ntmps173
 go_wp2
 exact bodyPost_ret (v:=.agg #[n,a,g,p,c,d]) (by simp[results,results173,go_sem]) rfl ⟨rfl,((zC _ _).alloc (zD _) _).alloc (by simp) _⟩
theorem xz(x:Cf)(n:Nat)(w:World):Calls prog 178 #[.agg (dr x),n] w fun e w'=>e=.returned (.agg (dr (aD 2 x n)))/\Below w w w':=by
 obtain⟨m,a,g,p,c,d⟩:=x;show Calls prog 178 #[.agg #[m,a,g,p,c,d],n] w fun e w'=>e=.returned (.agg #[m,n,g,p,c,d])/\Below w w w'
 go_enter func178,ntmps178
 go_wp2
 exact bodyPost_ret (v:=.agg #[m,n,g,p,c,d]) (by simp[results,results178,go_sem]) rfl ⟨rfl,((zC _ _).alloc (zD _) _).alloc (by simp) _⟩
theorem xA(x:Cf)(n:Nat)(w:World):Calls prog 184 #[.agg (dr x),n] w fun e w'=>e=.returned (.agg (dr (aD 5 x n)))/\Below w w w':=by
 obtain⟨m,a,g,p,c,d⟩:=x;show Calls prog 184 #[.agg #[m,a,g,p,c,d],n] w fun e w'=>e=.returned (.agg #[m,a,n,p,c,d])/\Below w w w'
 go_enter func184,ntmps184
 go_wp2
 exact bodyPost_ret (v:=.agg #[m,a,n,p,c,d]) (by simp[results,results184,go_sem]) rfl ⟨rfl,((zC _ _).alloc (zD _) _).alloc (by simp) _⟩
theorem xB(x:Cf)(n:Nat)(w:World):Calls prog 189 #[.agg (dr x),n] w fun e w'=>e=.returned (.agg (dr (aD 7 x n)))/\Below w w w':=by
 obtain⟨m,a,g,p,c,d⟩:=x;show Calls prog 189 #[.agg #[m,a,g,p,c,d],n] w fun e w'=>e=.returned (.agg #[m,a,g,p,c,d])/\Below w w w'
 go_enter func189,ntmps189
 go_wp2
 exact bodyPost_ret (v:=.agg #[m,a,g,p,c,d]) (by simp[results,results189,go_sem]) rfl ⟨rfl,((zC _ _).alloc (zD _) _).alloc (by simp) _⟩
theorem xC(x:Cf)(n:Nat)(w:World):Calls prog 194 #[.agg (dr x),n] w fun e w'=>e=.returned (.agg (dr (aD 8 x n)))/\Below w w w':=by
 obtain⟨m,a,g,p,c,d⟩:=x;show Calls prog 194 #[.agg #[m,a,g,p,c,d],n] w fun e w'=>e=.returned (.agg #[m,a,g,p,c,d])/\Below w w w'
 go_enter func194,ntmps194
 go_wp2
 exact bodyPost_ret (v:=.agg #[m,a,g,p,c,d]) (by simp[results,results194,go_sem]) rfl ⟨rfl,((zC _ _).alloc (zD _) _).alloc (by simp) _⟩
theorem xD(x:Cf)(n:Nat)(w:World):Calls prog 199 #[.agg (dr x),n] w fun e w'=>e=.returned (.agg (dr (aD 9 x n)))/\Below w w w':=by
 obtain⟨m,a,g,p,c,d⟩:=x;cases d
 .show Calls prog 199 #[.agg #[m,a,g,p,c,false],n] w fun e w'=>e=.returned (.agg #[m,a,g,p,c,false])/\Below w w w'
  go_enter func199,ntmps199
  go_wp2
  exact bodyPost_ret (v:=.agg #[m,a,g,p,c,false]) (by simp[results,results199,go_sem]) rfl ⟨rfl,((zC _ _).alloc (zD _) _).alloc (by simp) _⟩
 .show Calls prog 199 #[.agg #[m,a,g,p,c,true],n] w fun e w'=>e=.returned (.agg #[m,a,g,p,c,.bool ((n:Int) != 2)])/\Below w w w'
  go_enter func199,ntmps199
  go_wp2
  exact bodyPost_ret (v:=.agg #[m,a,g,p,c,.bool ((n:Int) != 2)]) (by simp[results,results199,go_sem]) rfl ⟨rfl,((zC _ _).alloc (zD _) _).alloc (by simp) _⟩
theorem wo1(x:Cf)(w:World):Calls prog 174 #[.agg (dr x)] w fun e w'=>e=.returned (.agg (dr (lQ 1 x)))/\Below w w w':=by
 obtain⟨m,a,g,p,c,d⟩:=x;show Calls prog 174 #[.agg #[m,a,g,p,c,d]] w fun e w'=>e=.returned (.agg #[(300:Int),a,g,p,c,d])/\Below w w w'
 go_enter func174,ntmps174
 go_wp2
 exact bodyPost_ret (v:=.agg #[(300:Int),a,g,p,c,d]) (by simp[results,results174,go_sem]) rfl ⟨rfl,((zC _ _).alloc (zD _) _).alloc (by simp) _⟩
theorem wo2(x:Cf)(w:World):Calls prog 179 #[.agg (dr x)] w fun e w'=>e=.returned (.agg (dr (lQ 2 x)))/\Below w w w':=by
 obtain⟨m,a,g,p,c,d⟩:=x;show Calls prog 179 #[.agg #[m,a,g,p,c,d]] w fun e w'=>e=.returned (.agg #[m,(4294967295:Int),g,p,c,d])/\Below w w w'
 go_enter func179,ntmps179
 go_wp2
 exact bodyPost_ret (v:=.agg #[m,(4294967295:Int),g,p,c,d]) (by simp[results,results179,go_sem]) rfl ⟨rfl,((zC _ _).alloc (zD _) _).alloc (by simp) _⟩
theorem wo5(x:Cf)(w:World):Calls prog 185 #[.agg (dr x)] w fun e w'=>e=.returned (.agg (dr (lQ 5 x)))/\Below w w w':=by
 obtain⟨m,a,g,p,c,d⟩:=x;show Calls prog 185 #[.agg #[m,a,g,p,c,d]] w fun e w'=>e=.returned (.agg #[m,a,(0:Int),p,c,d])/\Below w w w'
 go_enter func185,ntmps185
 go_wp2
 exact bodyPost_ret (v:=.agg #[m,a,(0:Int),p,c,d]) (by simp[results,results185,go_sem]) rfl ⟨rfl,((zC _ _).alloc (zD _) _).alloc (by simp) _⟩
theorem wo7(x:Cf)(w:World):Calls prog 190 #[.agg (dr x)] w fun e w'=>e=.returned (.agg (dr (lQ 7 x)))/\Below w w w':=by
 obtain⟨m,a,g,p,c,d⟩:=x;show Calls prog 190 #[.agg #[m,a,g,p,c,d]] w fun e w'=>e=.returned (.agg #[m,a,g,false,c,d])/\Below w w w'
 go_enter func190,ntmps190
 go_wp2
 exact bodyPost_ret (v:=.agg #[m,a,g,false,c,d]) (by simp[results,results190,go_sem]) rfl ⟨rfl,((zC _ _).alloc (zD _) _).alloc (by simp) _⟩
theorem wo8(x:Cf)(w:World):Calls prog 195 #[.agg (dr x)] w fun e w'=>e=.returned (.agg (dr (lQ 8 x)))/\Below w w w':=by
 obtain⟨m,a,g,p,c,d⟩:=x;show Calls prog 195 #[.agg #[m,a,g,p,c,d]] w fun e w'=>e=.returned (.agg #[m,a,g,p,false,d])/\Below w w w'
 go_enter func195,ntmps195
 go_wp2
 exact bodyPost_ret (v:=.agg #[m,a,g,p,false,d]) (by simp[results,results195,go_sem]) rfl ⟨rfl,((zC _ _).alloc (zD _) _).alloc (by simp) _⟩
theorem wo9(x:Cf)(w:World):Calls prog 200 #[.agg (dr x)] w fun e w'=>e=.returned (.agg (dr (lQ 9 x)))/\Below w w w':=by
 obtain⟨m,a,g,p,c,d⟩:=x;show Calls prog 200 #[.agg #[m,a,g,p,c,d]] w fun e w'=>e=.returned (.agg #[m,a,g,p,c,false])/\Below w w w'
 go_enter func200,ntmps200
 go_wp2
 exact bodyPost_ret (v:=.agg #[m,a,g,p,c,false]) (by simp[results,results200,go_sem]) rfl ⟨rfl,((zC _ _).alloc (zD _) _).alloc (by simp) _⟩
structure CfR(k:Int)(s f f2 f3 f4 f5 j:Nat):Prop where
 fd:Instr.findNow (.int .i64) k cI.toList 0=some (some (j,aZ s f f2 f3 f4 f5))
 cf3:∀args W,(callFunc f3 args).run prog W=.ok (.enter f3 args) W
 cf4:∀args W,(callFunc f4 args).run prog W=.ok (.enter f4 args) W
 ls:∀(x:Cf) (n:Nat) v,Calls prog f3 #[.agg (dr x),n] v fun e w'=>e=.returned (.agg (dr (aD k x n)))/\Below v v w'
 wo:∀(x:Cf) v,Calls prog f4 #[.agg (dr x)] v fun e w'=>e=.returned (.agg (dr (lQ k x)))/\Below v v w'
theorem qy(k:Int):(∃s f f2 f3 f4 f5 j,bN k=some s/\CfR k s f f2 f3 f4 f5 j)\/(bN k=none/\(∀x,lQ k x=x)/\Instr.findNow (.int .i64) k cI.toList 0=some none):=by
 by_cases h1:k=1
 .subst h1;exact Or.inl ⟨2,_,_,_,_,_,_,rfl,⟨rfl,bM (by kernel_rfl),bM (by kernel_rfl),fun x n v=>FK x n v,fun x v=>wo1 x v⟩⟩
 by_cases h2:k=2
 .subst h2;exact Or.inl ⟨4,_,_,_,_,_,_,rfl,⟨rfl,bM (by kernel_rfl),bM (by kernel_rfl),fun x n v=>xz x n v,fun x v=>wo2 x v⟩⟩
 by_cases h5:k=5
 .subst h5;exact Or.inl ⟨4,_,_,_,_,_,_,rfl,⟨rfl,bM (by kernel_rfl),bM (by kernel_rfl),fun x n v=>xA x n v,fun x v=>wo5 x v⟩⟩
 by_cases h7:k=7
 .subst h7;exact Or.inl ⟨0,_,_,_,_,_,_,rfl,⟨rfl,bM (by kernel_rfl),bM (by kernel_rfl),fun x n v=>xB x n v,fun x v=>wo7 x v⟩⟩
 by_cases h8:k=8
 .subst h8;exact Or.inl ⟨0,_,_,_,_,_,_,rfl,⟨rfl,bM (by kernel_rfl),bM (by kernel_rfl),fun x n v=>xC x n v,fun x v=>wo8 x v⟩⟩
 by_cases h9:k=9
 .subst h9;exact Or.inl ⟨1,_,_,_,_,_,_,rfl,⟨rfl,bM (by kernel_rfl),bM (by kernel_rfl),fun x n v=>xD x n v,fun x v=>wo9 x v⟩⟩
 .refine Or.inr ⟨by simp[bN,h1,h2,h5,h7,h8,h9],fun x=>by simp[lQ,h1,h2,h5,h7,h8,h9],?_⟩;have e1:(k==1)=false:=zL h1;have e2:(k==2)=false:=zL h2;have e5:(k==5)=false:=zL h5;have e7:(k==7)=false:=zL h7;have e8:(k==8)=false:=zL h8;have e9:(k==9)=false:=zL h9;simp[Instr.findNow,cI,Instr.sameNow,e1,e2,e5,e7,e8,e9]
theorem xE:(prog.info? 24).map (·.size)=some 6:=by kernel_rfl
theorem jU(h:W.heap[E]?=some (.cells #[x0,x1,x2,x3,x4,x5] 24)):(loadVar 24 (E,0)).run prog W=.ok (.agg #[x0,x1,x2,x3,x4,x5]) W :=
 run_loadVar_row (P:=prog) _ _ 24 24 #[x0,x1,x2,x3,x4,x5] (0,0) _ h underlying24 rfl xE
theorem sQ(w:World)(a b c:Obj):(((w.alloc a).alloc b).alloc c).heap[w.heap.size]?=some a/\(((w.alloc a).alloc b).alloc c).heap[w.heap.size+1]?=some b/\(((w.alloc a).alloc b).alloc c).heap[w.heap.size+1+1]?=some c/\Below w w (((w.alloc a).alloc b).alloc c):=by
 have s1:(w.alloc a).heap.size=w.heap.size+1:=by simp
 have s2:((w.alloc a).alloc b).heap.size=w.heap.size+1+1:=by simp
 have e2:=zF (w.alloc a) b;have e3:=zF ((w.alloc a).alloc b) c;rw[s1]at e2;rw[s2]at e3;refine⟨?_,?_,e3,(((zC _ _).alloc (zD _) _).alloc (by omega) _).alloc (by omega) _⟩
 .rw [zG _ _ _ (by omega),zG _ _ _ (by omega)];exact zF w a
 .rw [zG _ _ _ (by omega)];exact e2
theorem sR(y x:Cf)(w:World):Calls prog 151 #[.agg (dr y),.agg (dr x)] w fun e w'=>e=.returned (.agg (dr (li y x)))/\Below w w w':=by
 unfold li sw;obtain⟨m,a,g,p,c,d⟩:=y;obtain⟨m',a',g',p',c',d'⟩:=x;have C:=aa fun v=>dm (m:Int) a g p c d v
 obtain⟨h1,h2,h3,h4⟩:=sQ w (.cells #[m,a,g,p,c,d] 24) (.cells #[m',a',g',p',c',d'] 24) (.cells #[(0:Int),(0:Int),(0:Int),false,false,false] 24);have H0:=aa (zA h1 (zA h2 (zA h3 h4)));clear h1 h2 h3 h4;dsimp only;cases hq:aK (m:Int) a g
 .rw [if_neg (by decide)];rw[hq]at C;show Calls prog 151 #[.agg #[m,a,g,p,c,d],.agg #[m',a',g',p',c',d']] w fun e w'=>e=.returned (.agg #[m',a',g',p',c',d'])/\Below w w w'
  go_enter func151,ntmps151
  go_wp2_with fail
  refine(uh C _).mono ?_;rintro e w1⟨rfl,hb1⟩;obtain⟨h1,h2,h3,h4⟩:=uh H0;have hS1:=(hb1.block (w.heap.size+1) (by simp)).trans h2;have hR1:=(hb1.block (w.heap.size+1+1) (by simp)).trans h3;have hB1:=h4.trans (hb1.mono h4.size);obtain⟨c0,c1,c2,c3,c4,c5⟩:=aJ hS1;obtain⟨r0,r1,r2,r3,r4,r5⟩:=aJ hR1;have f0:=aX hR1 0;have f1:=aX hR1 1;have f2:=aX hR1 2;have f3:=aX hR1 3;have f4:=aX hR1 4;have f5:=aX hR1 5;have H1:=aa (zA hR1 hB1);clear hS1 hR1 hB1 hb1 h1 h2 h3 h4 H0 C;go_wp2
  exact bodyPost_ret (v:=.agg #[m',a',g',p',c',d']) (by simp[results,results151,asAddr,jU (dP H1.out.1 m' a' g' p' c' d')]) rfl ⟨rfl,nz H1.out.2 (by omega) _ _ _ _ _ _⟩
 .rw [if_pos rfl];rw[hq]at C;show Calls prog 151 #[.agg #[m,a,g,p,c,d],.agg #[m',a',g',p',c',d']] w fun e w'=>e=.returned (.agg #[m,a,g,p,c,d])/\Below w w w'
  go_enter func151,ntmps151
  go_wp2_with fail
  refine(uh C _).mono ?_;rintro e w1⟨rfl,hb1⟩;obtain⟨h1,h2,h3,h4⟩:=uh H0;have hS1:=(hb1.block (w.heap.size) (by simp;omega)).trans h1;have hR1:=(hb1.block (w.heap.size+1+1) (by simp)).trans h3;have hB1:=h4.trans (hb1.mono h4.size);obtain⟨c0,c1,c2,c3,c4,c5⟩:=aJ hS1;obtain⟨r0,r1,r2,r3,r4,r5⟩:=aJ hR1;have f0:=aX hR1 0;have f1:=aX hR1 1;have f2:=aX hR1 2;have f3:=aX hR1 3;have f4:=aX hR1 4;have f5:=aX hR1 5;have H1:=aa (zA hR1 hB1);clear hS1 hR1 hB1 hb1 h1 h2 h3 h4 H0 C;go_wp2
  exact bodyPost_ret (v:=.agg #[m,a,g,p,c,d]) (by simp[results,results151,asAddr,jU (dP H1.out.1 m a g p c d)]) rfl ⟨rfl,nz H1.out.2 (by omega) _ _ _ _ _ _⟩
structure CfS(w:World)(M:Nat)(x:Cf)(q:World):Prop where
 x:q.heap[w.heap.size]?=some (.cells (dr x) 24)
 r:q.heap[w.heap.size+1]?=some (.cells #[(0:Int),(0:Int),(0:Int),false,false,false] 24)
 m:q.heap[M]?=some (.map cI 6)
 b:Below w w q
theorem CfS.step{x:Cf}{q':World}(h:CfS w M x q)(hb:Below q q q'):CfS w M x q' :=
 ⟨(hb.block _ (ge.1 h.x).1).trans h.x,(hb.block _ (ge.1 h.r).1).trans h.r,(hb.block _ (ge.1 h.m).1).trans h.m,h.b.trans (hb.mono h.b.size)⟩
theorem gq{g:Nat}(hg:g≠E)(x0 x1 x2 x3 x4 x5:Value):((((((W.setCell (E,0) x0).setCell (E,1) x1).setCell (E,2) x2).setCell (E,3) x3).setCell (E,4) x4).setCell (E,5) x5).heap[g]?=W.heap[g]?:=by
 rw[zJ _ _ _ _ hg,zJ _ _ _ _ hg,zJ _ _ _ _ hg,zJ _ _ _ _ hg,zJ _ _ _ _ hg,zJ _ _ _ _ hg]
theorem CfS.put{x:Cf}(h:CfS w M x q)(h2:w.heap.size+1<M)(y:Cf):CfS w M y ((((((q.setCell (w,0) y.m).setCell (w,1) y.a).setCell (w,2) y.g).setCell (w,3) y.p).setCell (w,4) y.c).setCell (w,5) y.d) :=
 ⟨dP h.x _ _ _ _ _ _,(gq (by omega) _ _ _ _ _ _).trans h.r,(gq (by omega) _ _ _ _ _ _).trans h.m,nz h.b (zD _) _ _ _ _ _ _⟩
theorem eh{B:Nat}{T:TypeId}(h:w.heap[B]?=some (.cells #[x0,x1,x2,x3,x4,x5] T)):w.frozen? (B,0)=false/\w.frozen? (B,1)=false/\w.frozen? (B,2)=false/\w.frozen? (B,3)=false/\w.frozen? (B,4)=false/\w.frozen? (B,5)=false:=⟨aX h _,aX h _,aX h _,aX h _,aX h _,aX h _⟩
theorem lT(x:Cf)(v:Value)(F:List Op.Opt)(w:World)(hx:sw x=true)(hr:Op.right F=true)(h:HoldsO w v F):Calls prog 140 #[.agg (dr x),v] w fun e w'=>e=.returned (.agg (dr (gI x F)))/\Below w w w':=by
 have hFl:=Op.right_len hr;have C0:=aa fun W=>dm (x.m:Int) x.a x.g x.p x.c x.d W
 have C1:=aa fun W (hb:Below w w W)=>nm v F W (by unfold maxLen;omega) (h.below hb rfl)
 rw[show aK (x.m:Int) x.a x.g=true from hx]at C0;rw[hr]at C1;have HFO:=aa (Op.right_all hr);have HAT:=aa fun i hi=>h.at i hi
 obtain⟨ad,cp,rfl⟩:=h.form;obtain⟨n,hn⟩ := ex F.length;obtain⟨_,hA,hR,hb⟩:=br w (.cells (dr x) 24) (.cells #[(0:Int),(0:Int),(0:Int),false,false,false] 24);have H0:=aa (zA hA (zA hR hb));have d0:¬((400:Int)<(n:Int)):=by omega
 clear h hr hA hR hb;have HTL:Hid (F.take n=F):=aa (List.take_of_length_le (by omega));obtain⟨R,hR⟩ := ex (gI x F);rw[hR];have HR:=aa hR;clear hR;have hx0:gI x (F.take 0)=x:=rfl;rw[hn]at C1|-;go_enter func140,ntmps140
 go_wp2_with fail
 refine(uh C0 _).mono ?_;rintro e w1⟨rfl,hb1⟩;have hA1:=(hb1.block w (by simp;omega)).trans H0.out.1;have hR1:=(hb1.block (w.heap.size+1) (by simp)).trans H0.out.2.1;have hB1:=H0.out.2.2.trans (hb1.mono H0.out.2.2.size);have H1:=aa (zA hA1 (zA hR1 hB1));clear hA1 hR1 hB1 hb1 H0 C0;go_wp2_with fail
 refine(uh C1 _ H1.out.2.2).mono ?_;rintro e w2⟨rfl,hb2⟩;have hA2:=(hb2.block w (ge.1 H1.out.1).1).trans H1.out.1;have hR2:=(hb2.block (w.heap.size+1) (ge.1 H1.out.2.1).1).trans H1.out.2.1;have hB2:=H1.out.2.2.trans (hb2.mono H1.out.2.2.size);have H2:=aa (zA hA2 (zA hR2 hB2));clear hA2 hR2 hB2 hb2 H1 C1;go_wp2_with fail
 refine(dF _).mono ?_;rintro e w3⟨rfl,hm3,hb3⟩;have hI:CfS w w2 (gI x (F.take 0)) w3:=by
  have hl1:=(ge.1 H2.out.1).1;have hl2:=(ge.1 H2.out.2.1).1;rw[hx0];exact⟨(hb3.block _ hl1).trans H2.out.1,(hb3.block _ hl2).trans H2.out.2.1,hm3,H2.out.2.2.trans (hb3.mono H2.out.2.2.size)⟩
 have hM:w.heap.size+1<w2.heap.size:=(ge.1 H2.out.2.1).1;have HI:=aa hI;clear hI hm3 hb3 H2 hx0 hx;go_wp2_with fail
 generalize w2.heap.size=M at*;go_loopw [26] (fun y wr=>∃i:Nat,i<=n/\y=.int .i64 i/\CfS w M (gI x (F.take i)) wr) (fun y _=>n-(intOf y).toNat)
 case atStart=>exact⟨0,Nat.zero_le _,rfl,uh HI⟩
 case round =>
  obtain⟨i,hi,rfl,hS⟩:=hrel;clear HI;by_cases hlt:i<n
  .have d1:(i:Int)<(n:Int):=by omega
   have d2:(0:Int)<=(i:Int):=by omega
   obtain⟨g,⟨cp2,e2⟩,hgl,k0,k1⟩:=uh HAT i (by omega);cases e2;replace k0:=(hS.b.cell (p:=⟨g,i*2,none⟩) hgl).trans k0;replace k1:=(hS.b.cell (p:=⟨g,i*2+1,none⟩) hgl).trans k1;have HSN:=aa (lS x F i (by omega));have hok:=uh HFO _ (List.getElem_mem (show i<F.length by omega));generalize F[i]'(by omega)=o at*;obtain⟨kd,dt⟩:=o;dsimp only at k0 k1;generalize gI x (F.take i)=y at*;have hds:dt.size<=20:=by unfold Op.ok at hok;have:=of_decide_eq_true hok;exact this.2.2
   have HS:=aa hS;clear hS HAT HFO hok;go_upto_region 9 with fail
   refine bb (fun q=>CfS w M y q/\q.heap[wr.heap.size]?=some (.cells #[kd,dt] 105))
    ⟨HS.out.step ((zC _ _).alloc (zD _) _),zF wr _⟩ ?_
   rintro q1⟨hS1,hO1⟩;have hN1:M<wr.heap.size:=(ge.1 HS.out.m).1;generalize wr.heap.size=N1 at*;have hl1:N1<q1.heap.size:=(ge.1 hO1).1;obtain⟨c0,c1,_,_⟩:=av hO1;have HV1:=aa (zA hS1 hO1);clear hO1 HS k0 k1;rcases qy kd with⟨s,f,f2,f3,f4,f5,j,hs,hJ⟩|⟨hs,hwo,hf⟩
   .have hlk:=kY q1 M cI 6 j kd _ hS1.m hJ.fd;have hcf:=hJ.cf4;have HJ2:=aa fun v=>hJ.wo y v
    clear hS1 hJ;go_upto_region 10 with fail
    refine bb (fun q=>CfS w M y q/\q.heap[q1.heap.size]?=some (.cells #[s,cY f,cY f2,cY f3,cY f4,cY f5] 191))
     ⟨HV1.out.1.step ((zC _ _).alloc (zD _) _),zF q1 _⟩ ?_
    rintro q4⟨hS4,hR4⟩;obtain⟨_,_,_,_,r4,_⟩:=aJ hR4;obtain⟨m0,m1,m2,m3,m4,m5⟩:=aJ hS4.x;have HV4:=aa hS4;clear hS4 hR4 HV1 c0 c1 hlk;go_wp2_with fail
    refine(uh HJ2 _).mono ?_;rintro e w6⟨rfl,hb6⟩;have h6:=HV4.out.step hb6;clear m0 m1 m2 m3 m4 m5;obtain⟨m0,m1,m2,m3,m4,m5⟩:=aJ h6.x;obtain⟨f0',f1',f2',f3',f4',f5'⟩:=eh h6.x;have HL:=aa (h6.put hM (lQ kd y));clear h6 hb6 HV4;go_wp2_with fail
    go_roundw
    case rel=>exact⟨i+1,by omega,by go_num,by rw[uh HSN];exact uh HL⟩
    case measure=>simp[intOf];omega
   .have hlk:=kZ q1 M cI 6 kd hS1.m hf;clear hS1 hf;go_wp2_with fail
    go_roundw
    case rel=>exact⟨i+1,by omega,by go_num,by rw[uh HSN,hwo];exact HV1.out.1.step ((zC _ _).alloc (zD _) _)⟩
    case measure=>simp[intOf];omega
  .have e:i=n:=by omega
   subst e;have d1:¬((i:Int)<(i:Int)):=by omega
   rw[uh HTL,uh HR]at hS;obtain⟨m0,m1,m2,m3,m4,m5⟩:=aJ hS.x;obtain⟨r0,r1,r2,r3,r4,r5⟩:=aJ hS.r;obtain⟨f0,f1,f2,f3,f4,f5⟩:=eh hS.r;have HS:=aa hS;clear hS HAT HFO HTL HR;go_wp2
   exact bodyPost_ret (v:=.agg (dr R)) (by simp[results,results140,asAddr,jU (dP HS.out.r R.m R.a R.g R.p R.c R.d)]) rfl ⟨rfl,nz HS.out.b (by omega) _ _ _ _ _ _⟩
end Go.Proofs.YtjdgiimfpkideaaGreatDoor
