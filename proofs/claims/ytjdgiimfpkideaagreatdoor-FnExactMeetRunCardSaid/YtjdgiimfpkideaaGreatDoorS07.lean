/- OptB PktB CfM -/
import Derived.Test.YtjdgiimfpkideaaGreatDoorS04
import Derived.Test.YtjdgiimfpkideaaGreatDoorS03
set_option maxHeartbeats 4000000
set_option maxRecDepth 100000
namespace Go.Proofs.YtjdgiimfpkideaaGreatDoor
open Go.RowKit Go.Proofs.Tryz
def rD (F:List Op.Opt):ByteArray:=co (Op.told F)
theorem uB {F:List Op.Opt} (h:Op.right F=false):rD F=⟨#[]⟩:=by unfold rD Op.told;rw [if_neg (by rw [h];decide)];rfl
theorem fI {F:List Op.Opt} (h:Op.right F=true):rD F=co (Op.bytes F):=by unfold rD Op.told;rw [if_pos h]
theorem pJ {o:Op.Opt} (h:Op.ok o=true):∃ k n:UInt8,o.kind=(k.toNat:Int)∧(o.data.size:Int)+2=(n.toNat:Int)∧o.data.size≤20∧Op.one o=[k,n] ++ o.data.data.toList:=by
  have h':=of_decide_eq_true h;refine ⟨UInt8.ofNat o.kind.toNat,UInt8.ofNat (o.data.size+2),?_,?_,h'.2.2,rfl⟩
  · have:(UInt8.ofNat o.kind.toNat).toNat=o.kind.toNat:=by simp;omega
    omega
  · have:(UInt8.ofNat (o.data.size+2)).toNat=o.data.size+2:=by simp;omega
    omega
theorem uB8:∀ c:UInt8,IntKind.u8.wrap (c.toNat:Int)=(c.toNat:Int):=fun c=>by rw [IntKind.wrap_u8];have:=c.toNat_lt;omega
theorem nB8:∀ c:UInt8,(c.toNat:Int) % 256=(c.toNat:Int):=fun c=>by have:=c.toNat_lt;omega
theorem pK (t:ByteArray) (h:t.size≤20):IntKind.u8.wrap (IntKind.i64.wrap ((t.size:Int)+2))=(t.size:Int)+2:=by
  rw [IntKind.wrap_i64,IntKind.wrap_u8];omega
theorem jf (F:List Op.Opt) (i:Nat) (hi:i<F.length):Op.bytes (F.take (i+1))=Op.bytes (F.take i) ++ Op.one F[i]:=by
  rw [List.take_succ_eq_append_getElem hi,Op.bytes_snoc]
theorem ft {F:List Op.Opt} (h:Op.right F=true) (i:Nat):(Op.bytes (F.take i)).length≤440:=by
  have h1:=Op.bytes_len (l:=F.take i) fun o ho=>Op.right_all h o (List.mem_of_mem_take ho)
  have h2:=Op.right_len h;rw [List.length_take] at h1;omega
theorem mF (ad:Option Addr) (cp:Nat) (w:World):Calls prog 131 #[.slice ad 0 cp] w fun e w'=>e=.returned (.string ⟨#[]⟩)∧Below w.heap.size w w':=by
  have hcv:∀ w1:World,(convert 22 9 (.slice none 0 0)).run prog w1=.ok (.string ⟨#[]⟩) w1:=fun w1=>eK (l:=[]) (base:=0) ⟨rfl,Or.inl ⟨rfl,rfl⟩⟩
  go_enter func131,ntmps131
  go_wp2_with fail
  refine (iW ad cp w).mono ?_;rintro e w1 ⟨rfl,hb1⟩;go_wp2_with fail
  go_loopw [3,11] (fun x y wr=>x=.slice none 0 0∧y=.int .i64 0∧wr=w1) (fun _ _ _=>0)
  case atStart=>exact ⟨rfl,rfl,rfl⟩
  case round =>
    obtain ⟨rfl,rfl,rfl⟩:=hrel;go_wp2
    go_ret
    exact ⟨rfl,hb1⟩
theorem jg {wr:World} {cs:Array Value} {ops:Array Oper} {rest:List Oper} {o:Oper} {a:Act} {Q:Exit→Act→World→Prop} (hgd:o.guard=none) (s x:Operand)
    (ho:o.op=.call { callee:=.builtin .append,args:=#[s,x],argTypes:=#[22,22] })
    (base:Nat) (v:Value) (L news:List UInt8) (hs:a.eval s=v) (hown:wr.ownsRow base 5 1 v L.length (dg L))
    (m:Nat) (hm:news.length=m) (hx:a.eval x=.slice (some ⟨wr.heap.size,0,none⟩) m m) (hcs:cs.toList=dg news) (hlen:L.length+news.length≤10000000) (hbase:base≤wr.heap.size)
    (h:∀ v' w',w'.ownsRow base 5 1 v' (L ++ news).length (dg (L ++ news))→Below base wr w'→(∀ k,k<wr.heap.size→v.ownBlock≠some k→w'.heap[k]?=wr.heap[k]?)→wr.heap.size≤w'.heap.size→wpList prog ops Q rest (a.put o.dst v') w'):wpList prog ops Q (o :: rest) a (wr.alloc (.cells cs 5)):=by
  obtain ⟨ui,hi1,hi2,hi3,hi4⟩:=mn;subst hm;refine wpList_append_own _ hgd s x 22 ho base 5 ui (.int .u8 0) 1 1 underlying22 hi1 hi2 hi3 hi4 rfl (by decide) v L.length (dg L) hs (hown.alloc _) ⟨wr.heap.size,0,none⟩ news.length news.length (dg news) hx (by rw [oX,Nat.mul_one]) ?_ ?_ ?_ ?_ ?_ ?_
  · intro i u hu
    rw [Addr.add_lit,Nat.zero_add,World.cell?_alloc_at _ _ _ _ rfl,← hu,← hcs,Array.getElem?_toList]
  · intro u hu
    simp only [dg,mp,List.map_map,List.mem_map] at hu;obtain ⟨x,_,rfl⟩:=hu;rfl
  · unfold maxLen;omega
  · omega
  · simp;omega
  · intro v' w2 hown2 hg2 _
    have hsz:=hg2.size;refine h v' w2 ?_ ?_ (fun k hk hne=>(hg2.block k (by simp;omega) (Ne.symm hne)).trans (zG _ _ _ hk)) (by simp at hsz;omega)
    · rw [fo,List.length_append];exact hown2
    · exact ((zC _ _).alloc hbase _).grown hg2 (by simp;omega) (fun q hq=>by exact (World.ownsRow.lt hown q hq).1)
theorem gz {w:World} {ops:Array Oper} {rest:List Oper} {o:Oper} {a:Act} {Q:Exit→Act→World→Prop} (hgd:o.guard=none) (s x:Operand)
    (ho:o.op=.call { callee:=.builtin .append,args:=#[s,x],argTypes:=#[22,9] })
    (base:Nat) (v:Value) (L:List UInt8) (n:Nat) (hn:L.length=n) (hs:a.eval s=v) (hown:w.ownsRow base 5 1 v n (dg L)) (t:ByteArray) (hx:a.eval x=.string t) (hlen:n+t.size≤1000000) (hbase:base≤w.heap.size)
    (h:∀ v' w',w'.ownsRow base 5 1 v' (n+t.size) (dg (L ++ t.data.toList))→Below base w w'→wpList prog ops Q rest (a.put o.dst v') w'):wpList prog ops Q (o :: rest) a w:=by
  subst hn;exact jc hgd s x ho base v L hs hown t hx hlen hbase h
theorem mG (g cp:Nat) (F:List Op.Opt) (cur:Array Value) (w:World) (hm:F.length≤maxLen) (h1:w.heap[g]?=some (.cells cur 105)) (a1:∀ j,j<F.length*2→cur[j]?=(aj F)[j]?) :
    Calls prog 131 #[.slice (some ⟨g,0,none⟩) F.length cp] w fun e w'=>e=.returned (.string (rD F))∧Below w.heap.size w w':=by
  have C:=aa (iX g cp F cur w hm h1 a1);have hl1:g<w.heap.size:=(ge.1 h1).1;obtain ⟨n,hn⟩:∃ n,F.length=n:=⟨_,rfl⟩;cases hr:Op.right F
  · rw [hr] at C
    rw [uB hr,hn];rw [hn] at C;clear hr a1;go_enter func131,ntmps131
    go_wp2_with fail
    refine (uh C).mono ?_;rintro e w1 ⟨rfl,hb1⟩;go_wp2
    go_ret
    exact ⟨rfl,hb1⟩
  · rw [hr] at C
    rw [fI hr,hn];rw [hn] at C;have hn20:=Op.right_len hr;have HA:Hid (∀ i (hi:i<n),cur[i*2]?=some (.int .i64 (F[i]'(by omega)).kind)∧cur[i*2+1]?=some (.string (F[i]'(by omega)).data)):=by
      refine aa fun i hi=>?_
      have q:=bW F i (F[i]'(by omega)) (List.getElem?_eq_getElem (by omega));exact ⟨(a1 _ (by omega)).trans q.1,(a1 _ (by omega)).trans q.2⟩
    have HK:Hid (∀ i (hi:i<n),Op.ok (F[i]'(by omega))=true):=aa fun i hi=>Op.right_all hr _ (List.getElem_mem _)
    have HT:Hid (∀ i (hi:i<n),Op.bytes (F.take (i+1))=Op.bytes (F.take i) ++ Op.one (F[i]'(by omega))):=aa fun i hi=>jf F i (by omega)
    have HLB:Hid (∀ i,(Op.bytes (F.take i)).length≤440):=aa fun i=>ft hr i
    have HEND:Hid (F.take n=F):=aa (List.take_of_length_le (by omega));clear a1 hm hr;go_enter func131,ntmps131
    go_wp2_with fail
    refine (uh C).mono ?_;rintro e w1 ⟨rfl,hb1⟩;clear C;go_wp2_with fail
    go_loopw [3,11] (fun x y wr=>∃ (i:Nat),i≤n∧y=.int .i64 i∧(∃ a c,x=.slice a (Op.bytes (F.take i)).length c)∧wr.ownsRow w.heap.size 5 1 x (Op.bytes (F.take i)).length (dg (Op.bytes (F.take i)))∧Below w.heap.size w wr) (fun _ y _=>n - (intOf y).toNat)
    case atStart=>exact ⟨0,Nat.zero_le _,rfl,⟨_,_,rfl⟩,⟨rfl,Or.inl ⟨rfl,rfl⟩⟩,hb1⟩
    case round =>
      obtain ⟨i,hi,rfl,⟨xa,xc,rfl⟩,hown,hb⟩:=hrel;have hbs:=hb.size;by_cases hlt:i<n
      · have d1:(i:Int)<(n:Int):=by omega
        obtain ⟨q1,q2⟩:=uh HA i hlt;have e1:=(hb.block g hl1).trans h1;have hbt:=uh HT i hlt;have hlb:=uh HLB i;obtain ⟨k,m,hk,hm2,hd20,hone⟩:=pJ (uh HK i hlt);generalize hO:F[i]'(by omega)=op at *;obtain ⟨kd,dt⟩:=op;dsimp only at q1 q2 hk hm2 hd20 hone;subst hk;have k0:wr.cell? ⟨g,i*2,none⟩=some (.int .i64 k.toNat):=by rw [cr e1];exact q1
        have k1:wr.cell? ⟨g,i*2+1,none⟩=some (.string dt):=by rw [cr e1];exact q2
        rw [hone] at hbt;have HBT:=aa hbt;generalize Op.bytes (F.take i)=L at *;have HM:Hid (2+(dt.size:Int)=(m.toNat:Int)):=aa (by omega);have HOW:=aa hown;have wb:=uB8;have mb:=nB8;have hgr:g<wr.heap.size:=Nat.lt_of_lt_of_le hl1 hbs;have hgr':¬ (g=wr.heap.size):=by omega
        have HNE:Hid ((Value.slice xa L.length xc).ownBlock≠some wr.heap.size):=aa fun e=>by have:=World.ownsRow.lt (uh HOW) _ e;omega
        have hmlt:=m.toNat_lt;clear q1 q2 e1 hbt hone hO hown HA HK HT HLB h1;go_upto_region 7 with fail
        refine ab (fun q=>q.heap[wr.heap.size]?=some (.cells #[.int .i64 k.toNat,.string dt] 105)∧q.ownsRow w.heap.size 5 1 (.slice xa L.length xc) L.length (dg L)∧Below w.heap.size w q∧wr.heap.size<q.heap.size)
          ⟨zF wr _,(uh HOW).alloc _,hb.alloc hbs _,by simp⟩ ?_
        rintro q ⟨hop,hoq,hbq,hlq⟩;have c0:q.cell? ⟨wr.heap.size,0,none⟩=some (.int .i64 k.toNat):=by rw [cr hop];rfl
        have c1:q.cell? ⟨wr.heap.size,1,none⟩=some (.string dt):=by rw [cr hop];rfl
        have HOQ:=aa hoq;have HOP:=aa hop;have hbqs:=hbq.size;clear hop hoq k0 k1 HOW hgr hgr'
        go_wp2_with (first
          | (at_builtin;refine jg rfl _ _ rfl w.heap.size (.slice xa L.length xc) L [k,m] rfl (uh HOQ) 2 rfl rfl (by show [_,_]=dg [k,m];rw [kO,← uh HM]) (by simp;omega) hbqs ?_;rintro v2 w2 ho2 hb2 hk2 hs2;rw [show (L ++ [k,m]).length=L.length+2 by simp] at ho2;obtain ⟨a2,c2,rfl⟩:=af ho2;have hop2:=(hk2 wr.heap.size hlq (uh HNE)).trans (uh HOP);have e1:w2.cell? ⟨wr.heap.size,1,none⟩=some (.string dt):=by { rw [cr hop2];rfl };have hB2:=hbq.trans hb2;have hB2s:=hB2.size;have HO2:=aa ho2;clear ho2 hop2 hk2 hb2 HOQ HOP HNE HM)
          | (at_builtin;refine gz rfl _ _ rfl w.heap.size _ (L ++ [k,m]) (L.length+2) (by simp) rfl (uh HO2) dt rfl (by omega) hB2s ?_;rintro v3 w3 ho3 hb3;obtain ⟨a3,c3,rfl⟩:=af ho3;have HO3:=aa ho3;clear ho3 HO2))
        go_roundw
        case rel =>
          have hdl:dt.data.toList.length=dt.size:=by rw [Array.length_toList];rfl
          have hlen:L.length+2+dt.size=(Op.bytes (F.take (i+1))).length:=by rw [uh HBT,List.length_append,List.length_append,hdl];simp;omega
          have hbys:L ++ [k,m] ++ dt.data.toList=Op.bytes (F.take (i+1)):=by rw [uh HBT,List.append_assoc]
          refine ⟨i+1,by omega,by go_num,⟨a3,c3,by rw [← hlen]⟩,?_,hB2.trans hb3⟩;have h:=uh HO3;rw [hlen,hbys] at h;rw [hlen];exact h
        case measure=>simp [intOf];omega
      · have e:i=n:=by omega
        subst e;have d1:¬ ((i:Int)<(i:Int)):=by omega
        rw [uh HEND] at hown ⊢;have hcv:=eK hown;go_wp2
        go_ret
        exact ⟨rfl,hb⟩
theorem cP (v:Value) (F:List Op.Opt) (w:World) (hm:F.length≤maxLen) (h:HoldsO w v F) :
    Calls prog 131 #[v] w fun e w'=>e=.returned (.string (rD F))∧Below w.heap.size w w':=by
  rcases h with ⟨ad,cp,rfl,rfl⟩ | ⟨g,cp,cur,rfl,h2,_,h4⟩
  · exact mF ad cp w
  · exact mG g cp F cur w hm h2 h4
theorem r_ (ad:Option Addr) (cp:Nat) (w:World):Calls prog 76 #[.slice ad 0 cp] w fun e w'=>e=.returned (.string ⟨#[]⟩)∧Below w.heap.size w w':=by
  have h0:(w.alloc (.cells #[] 5)).ownsRow w.heap.size 5 1 (.slice (some ⟨w.heap.size,0,none⟩) 0 0) 0 (dg []):=World.ownsRow_lit w #[] 0 (by omega) (Nat.zero_le _) rfl;have hcv:=eK h0;go_enter func76,ntmps76
  go_wp2_with fail
  go_loopw [3,4] (fun x y wr=>x=.slice (some ⟨w.heap.size,0,none⟩) 0 0∧y=.int .i64 0∧wr=w.alloc (.cells #[] 5)) (fun _ _ _=>0)
  case atStart=>exact ⟨rfl,rfl,rfl⟩
  case round =>
    obtain ⟨rfl,rfl,rfl⟩:=hrel;go_wp2
    go_ret
    exact ⟨rfl,(zC _ _).alloc (zD _) _⟩
theorem sd (g cp:Nat) (F:List Op.Opt) (cur:Array Value) (w:World) (hr:Op.right F=true) (h1:w.heap[g]?=some (.cells cur 105)) (a1:∀ j,j<F.length*2→cur[j]?=(aj F)[j]?) :
    Calls prog 76 #[.slice (some ⟨g,0,none⟩) F.length cp] w fun e w'=>e=.returned (.string (co (Op.bytes F)))∧Below w.heap.size w w':=by
  obtain ⟨ui,hi1,hi2,hi3,hi4⟩:=mn;have hl1:g<w.heap.size:=(ge.1 h1).1;obtain ⟨n,hn⟩:∃ n,F.length=n:=⟨_,rfl⟩;rw [hn];have hn20:=Op.right_len hr;have HA:Hid (∀ i (hi:i<n),cur[i*2]?=some (.int .i64 (F[i]'(by omega)).kind)∧cur[i*2+1]?=some (.string (F[i]'(by omega)).data)):=by
    refine aa fun i hi=>?_
    have q:=bW F i (F[i]'(by omega)) (List.getElem?_eq_getElem (by omega));exact ⟨(a1 _ (by omega)).trans q.1,(a1 _ (by omega)).trans q.2⟩
  have HK:Hid (∀ i (hi:i<n),Op.ok (F[i]'(by omega))=true):=aa fun i hi=>Op.right_all hr _ (List.getElem_mem _)
  have HT:Hid (∀ i (hi:i<n),Op.bytes (F.take (i+1))=Op.bytes (F.take i) ++ Op.one (F[i]'(by omega))):=aa fun i hi=>jf F i (by omega)
  have HLB:Hid (∀ i,(Op.bytes (F.take i)).length≤440):=aa fun i=>ft hr i
  have HEND:Hid (F.take n=F):=aa (List.take_of_length_le (by omega));clear a1 hr;go_enter func76,ntmps76
  go_wp2_with fail
  go_loopw [3,4] (fun x y wr=>∃ (i:Nat),i≤n∧y=.int .i64 i∧(∃ a c,x=.slice a (Op.bytes (F.take i)).length c)∧wr.ownsRow w.heap.size 5 1 x (Op.bytes (F.take i)).length (dg (Op.bytes (F.take i)))∧Below w.heap.size w wr) (fun _ y _=>n - (intOf y).toNat)
  case atStart=>exact ⟨0,Nat.zero_le _,rfl,⟨_,_,rfl⟩,World.ownsRow_lit w #[] 0 (by omega) (Nat.zero_le _) rfl,(zC _ _).alloc (zD _) _⟩
  case round =>
    obtain ⟨i,hi,rfl,⟨xa,xc,rfl⟩,hown,hb⟩:=hrel;have hbs:=hb.size;by_cases hlt:i<n
    · have d1:(i:Int)<(n:Int):=by omega
      have d0:(0:Int)≤(i:Int):=by omega
      obtain ⟨q1,q2⟩:=uh HA i hlt;have e1:=(hb.block g hl1).trans h1;have hbt:=uh HT i hlt;have hlb:=uh HLB i;obtain ⟨k,m,hk,hm2,hd20,hone⟩:=pJ (uh HK i hlt);generalize hO:F[i]'(by omega)=op at *;obtain ⟨kd,dt⟩:=op;dsimp only at q1 q2 hk hm2 hd20 hone;subst hk;have k0:wr.cell? ⟨g,i*2,none⟩=some (.int .i64 k.toNat):=by rw [cr e1];exact q1
      have k1:wr.cell? ⟨g,i*2+1,none⟩=some (.string dt):=by rw [cr e1];exact q2
      rw [hone] at hbt;have HBT:=aa hbt;generalize Op.bytes (F.take i)=L at *;have HM:Hid ((dt.size:Int)+2=(m.toNat:Int)):=aa hm2;have HOW:=aa hown;have wb:=uB8;have mb:=nB8;have hgr:g<wr.heap.size:=Nat.lt_of_lt_of_le hl1 hbs;have hNE:(Value.slice xa L.length xc).ownBlock≠some g:=fun e=>by have:=World.ownsRow.lt (uh HOW) _ e;omega
      have HC:Hid ([Value.int .u8 (k.toNat:Int),.int .u8 (IntKind.u8.wrap (IntKind.i64.wrap ((dt.size:Int)+2)))]=dg [k,m]):=aa (by rw [kO,← hm2,pK dt hd20]);clear q1 q2 e1 hbt hone hO hown HA HK HT HLB h1 hm2;go_wp2_with fail
      go_region_held3 (fun z=>z.cell? ⟨g,i*2,none⟩=some (.int .i64 k.toNat)∧z.cell? ⟨g,i*2+1,none⟩=some (.string dt))
        (first
          | go_keep
          | (go_split_ands
             refine ⟨?_,?_⟩
             · (rw [hgrow.cell_far _ (by simp;omega) (Ne.symm hNE)];assumption)
             · (rw [hgrow.cell_far _ (by simp;omega) (Ne.symm hNE)];assumption)))
        ((refine step_append_lies _ (by rfl) _ _ _ (by rfl) w.heap.size 5 ui _ 1 1 underlying22 hi1 hi2 hi3 hi4 rfl (by omega) (.slice xa L.length xc) L.length (dg L) (by rfl) (((uh HOW).alloc _).drew)
            ⟨wr.heap.size,0,none⟩ 2 2 [.int .u8 k.toNat,.int .u8 (IntKind.u8.wrap (IntKind.i64.wrap ((dt.size:Int)+2)))] (by rfl) (by rfl) (World.news_of_block (cs:=#[.int .u8 k.toNat,.int .u8 (IntKind.u8.wrap (IntKind.i64.wrap ((dt.size:Int)+2)))]) (t:=5) (fr:=(0,0)) (zF wr _)) (by simp [Value.oneCell'])
            (by omega) (by unfold maxLen;omega) (by omega) (by simp;omega) (wr.heap.size+1) (by simp) ?_;intro gg cap3 w3 hown3 hgrow hat hlt3))
      all_goals
        rw [uh HC,← fo] at hown3;have e1:w3.cell? ⟨g,i*2+1,none⟩=some (.string dt):=by
          rw [hgrow.cell_far ⟨g,i*2+1,none⟩ (by simp;omega) (Ne.symm hNE)];exact (((zC wr.heap.size wr).alloc (zD _) _).drew.cell (p:=⟨g,i*2+1,none⟩) hgr).trans k1
        have hbw3:Below w.heap.size w w3:=((hb.alloc hbs _).drew).grown hgrow (by simp;omega) (fun p hp=>(World.ownsRow.lt (uh HOW) p hp).1);have hbs3:=hbw3.size;have HO2:=aa hown3;clear hown3 hgrow hat HOW HC HM k0 k1
        go_wp2_with (first
          | (at_builtin;refine gz rfl _ _ rfl w.heap.size _ (L ++ [k,m]) (L.length+2) (by simp) rfl (uh HO2) dt rfl (by omega) hbs3 ?_;rintro v3 w4 ho3 hb3;obtain ⟨a3,c3,rfl⟩:=af ho3;have HO3:=aa ho3;clear ho3 HO2))
        go_roundw
        case rel =>
          have hdl:dt.data.toList.length=dt.size:=by rw [Array.length_toList];rfl
          have hlen:L.length+2+dt.size=(Op.bytes (F.take (i+1))).length:=by rw [uh HBT,List.length_append,List.length_append,hdl];simp;omega
          have hbys:L ++ [k,m] ++ dt.data.toList=Op.bytes (F.take (i+1)):=by rw [uh HBT,List.append_assoc]
          refine ⟨i+1,by omega,by go_num,⟨a3,c3,by rw [← hlen]⟩,?_,hbw3.trans hb3⟩;have h:=uh HO3;rw [hlen,hbys] at h;rw [hlen];exact h
        case measure=>simp [intOf];omega
    · have e:i=n:=by omega
      subst e;have d1:¬ ((i:Int)<(i:Int)):=by omega
      rw [uh HEND] at hown ⊢;have hcv:=eK hown;go_wp2
      go_ret
      exact ⟨rfl,hb⟩
theorem lm (p:Op.Pk) (P:Prop) (h1:¬ (0≤p.code∧p.code≤255)→Op.pok p=false→P) (h2:0≤p.code∧p.code≤255→¬ (0≤p.id∧p.id≤255)→Op.pok p=false→P)
  (h3:0≤p.code∧p.code≤255→0≤p.id∧p.id≤255→250<p.data.size→Op.pok p=false→P) (h4:0≤p.code∧p.code≤255→0≤p.id∧p.id≤255→p.data.size≤250→Op.pok p=true→P):P:=by
 by_cases a:0≤p.code∧p.code≤255
 ·by_cases b:0≤p.id∧p.id≤255
  ·by_cases c:p.data.size≤250
   ·exact h4 a b c (decide_eq_true (by omega))
   ·exact h3 a b (by omega) (decide_eq_false (by omega))
  ·exact h2 a b (decide_eq_false (by omega))
 ·exact h1 a (decide_eq_false (by omega))
theorem fW {x:Int} (h:0≤x∧x≤255):(decide (0≤x) && decide (x≤255))=true:=by simp;omega
theorem ki {x:Int} (h:¬ (0≤x∧x≤255)):(decide (0≤x) && decide (x≤255))=false:=by simp;omega
theorem dZ (x y:Int) (t:ByteArray) (w:World):Calls prog 92 #[.agg #[.int .i64 x,.int .i64 y,.string t]] w fun e w'=>e=.returned (.bool (Op.pok ⟨x,y,t⟩))∧Below w.heap.size w w':=by
 have C1:=aa fun v=>ns x v
 have C2:=aa fun v=>ns y v
 obtain ⟨R,hR⟩:∃ R,Op.pok ⟨x,y,t⟩=R:=⟨_,rfl⟩;rw [hR];refine lm ⟨x,y,t⟩ _ (fun a r=>?_) (fun a b r=>?_) (fun a b c r=>?_) (fun a b c r=>?_)
 all_goals
  dsimp only at a;rw [hR] at r;subst r;clear hR
 ·rw [ki a] at C1;clear a C2;go_enter func92,ntmps92
  go_wp2_with (first
   | (go_at_call 113;refine (uh C1 _).mono ?_;rintro e w2 ⟨rfl,rfl⟩))
  go_ret
  exact ⟨rfl,(zC _ _).alloc (zD _) _⟩
 ·dsimp only at b;rw [fW a] at C1;rw [ki b] at C2;clear a b;go_enter func92,ntmps92
  go_wp2_with fail
  refine (uh C1 _).mono ?_;rintro e w2 ⟨rfl,rfl⟩;go_wp2_with fail
  refine (uh C2 _).mono ?_;rintro e w2 ⟨rfl,rfl⟩;go_wp2
  go_ret
  exact ⟨rfl,(zC _ _).alloc (zD _) _⟩
 ·dsimp only at b c;rw [fW a] at C1;rw [fW b] at C2;have f1:decide ((t.size:Int)≤250)=false:=decide_eq_false (by omega);clear a b c;go_enter func92,ntmps92
  go_wp2_with fail
  refine (uh C1 _).mono ?_;rintro e w2 ⟨rfl,rfl⟩;go_wp2_with fail
  refine (uh C2 _).mono ?_;rintro e w2 ⟨rfl,rfl⟩;go_wp2
  go_ret
  exact ⟨rfl,(zC _ _).alloc (zD _) _⟩
 ·dsimp only at b c;rw [fW a] at C1;rw [fW b] at C2;have f1:decide ((t.size:Int)≤250)=true:=decide_eq_true (by omega);clear a b c;go_enter func92,ntmps92
  go_wp2_with fail
  refine (uh C1 _).mono ?_;rintro e w2 ⟨rfl,rfl⟩;go_wp2_with fail
  refine (uh C2 _).mono ?_;rintro e w2 ⟨rfl,rfl⟩;go_wp2
  go_ret
  exact ⟨rfl,(zC _ _).alloc (zD _) _⟩
theorem jh (x:Int) (w:World):Calls prog 94 #[.int .i64 x] w fun e w'=>e=.returned (.bool (decide (0≤x) && decide (x≤255)))∧w'=w:=by
 have C:=aa fun v=>jM x 0 v
 go_enter func94,ntmps94
 go_wp2_with fail
 refine (uh C _).mono ?_;rintro e w2 ⟨rfl,hw⟩;replace hw:=hw.symm;subst hw;go_wp2
 go_ret
 exact ⟨rfl,rfl⟩
theorem d7 (x y:Int) (t:ByteArray) (w:World):Calls prog 74 #[.agg #[.int .i64 x,.int .i64 y,.string t]] w fun e w'=>e=.returned (.bool (Op.pok ⟨x,y,t⟩))∧Below w.heap.size w w':=by
 have C1:=aa fun v=>jh x v
 have C2:=aa fun v=>jh y v
 obtain ⟨R,hR⟩:∃ R,Op.pok ⟨x,y,t⟩=R:=⟨_,rfl⟩;rw [hR];refine lm ⟨x,y,t⟩ _ (fun a r=>?_) (fun a b r=>?_) (fun a b c r=>?_) (fun a b c r=>?_)
 all_goals
  dsimp only at a;rw [hR] at r;subst r;clear hR
 ·rw [ki a] at C1;clear a C2;go_enter func74,ntmps74
  go_wp2_with (first
   | (go_at_call 94;refine (uh C1 _).mono ?_;rintro e w2 ⟨rfl,rfl⟩))
  go_ret
  exact ⟨rfl,(zC _ _).alloc (zD _) _⟩
 ·dsimp only at b;rw [fW a] at C1;rw [ki b] at C2;clear a b;go_enter func74,ntmps74
  go_wp2_with fail
  refine (uh C1 _).mono ?_;rintro e w2 ⟨rfl,rfl⟩;go_wp2_with fail
  refine (uh C2 _).mono ?_;rintro e w2 ⟨rfl,rfl⟩;go_wp2
  go_ret
  exact ⟨rfl,(zC _ _).alloc (zD _) _⟩
 ·dsimp only at b c;rw [fW a] at C1;rw [fW b] at C2;have f1:decide ((t.size:Int)≤250)=false:=decide_eq_false (by omega);clear a b c;go_enter func74,ntmps74
  go_wp2_with fail
  refine (uh C1 _).mono ?_;rintro e w2 ⟨rfl,rfl⟩;go_wp2_with fail
  refine (uh C2 _).mono ?_;rintro e w2 ⟨rfl,rfl⟩;go_wp2
  go_ret
  exact ⟨rfl,(zC _ _).alloc (zD _) _⟩
 ·dsimp only at b c;rw [fW a] at C1;rw [fW b] at C2;have f1:decide ((t.size:Int)≤250)=true:=decide_eq_true (by omega);clear a b c;go_enter func74,ntmps74
  go_wp2_with fail
  refine (uh C1 _).mono ?_;rintro e w2 ⟨rfl,rfl⟩;go_wp2_with fail
  refine (uh C2 _).mono ?_;rintro e w2 ⟨rfl,rfl⟩;go_wp2
  go_ret
  exact ⟨rfl,(zC _ _).alloc (zD _) _⟩
theorem nE {x:Int} (h:0≤x∧x≤255):∃ c:UInt8,x=(c.toNat:Int)∧UInt8.ofNat x.toNat=c:=by
 refine ⟨UInt8.ofNat x.toNat,?_,rfl⟩;have:(UInt8.ofNat x.toNat).toNat=x.toNat:=by simp;omega
 omega
theorem nF {p:Op.Pk} (h:Op.pok p=true):∃ a b:UInt8,p.code=(a.toNat:Int)∧p.id=(b.toNat:Int)∧p.data.size≤250∧Op.phead p=[a,b,UInt8.ofNat ((p.data.size+4) / 256),UInt8.ofNat (p.data.size+4)]:=by
 have h':=of_decide_eq_true h;obtain ⟨a,ha,ha2⟩:=nE (x:=p.code) ⟨h'.1,h'.2.1⟩;obtain ⟨b,hb,hb2⟩:=nE (x:=p.id) ⟨h'.2.2.1,h'.2.2.2.1⟩;refine ⟨a,b,ha,hb,h'.2.2.2.2,?_⟩;unfold Op.phead;rw [ha2,hb2]
theorem wB8:∀ c:UInt8,IntKind.u8.wrap (c.toNat:Int)=(c.toNat:Int):=fun c=>by rw [IntKind.wrap_u8];have:=c.toNat_lt;omega
theorem mB8:∀ c:UInt8,(c.toNat:Int) % 256=(c.toNat:Int):=fun c=>by have:=c.toNat_lt;omega
def rE (p:Op.Pk):ByteArray:=co (Op.ptold p)
theorem mH {p:Op.Pk} (h:Op.pok p=false):rE p=⟨#[]⟩:=by unfold rE Op.ptold;rw [if_neg (by rw [h];decide)];rfl
theorem kj {p:Op.Pk} (h:Op.pok p=true):rE p=co (Op.phead p) ++ p.data:=by
 unfold rE Op.ptold;rw [if_pos h,je];rfl
theorem lq (p:Op.Pk) (w:World):Calls prog 252 #[.agg #[.int .i64 p.code,.int .i64 p.id,.string p.data]] w fun e w'=>e=.returned (.string (rE p))∧Below w.heap.size w w':=by
 cases hk:Op.pok p
 ·rw [mH hk];obtain ⟨x,y,t⟩:=p;have C:=aa fun v=>dZ x y t v
  rw [hk] at C;dsimp only;clear hk;go_enter func252,ntmps252
  go_wp2_with (first
   | (go_at_call 92;refine (uh C _).mono ?_;rintro e w2 ⟨rfl,hb2⟩))
  go_ret
  exact ⟨rfl,((zC _ _).alloc (zD _) _).trans (hb2.mono (by simp))⟩
 ·rw [kj hk];obtain ⟨a,b,e1,e2,e3,e4⟩:=nF hk;obtain ⟨x,y,t⟩:=p;dsimp only at e1 e2 e3 e4 ⊢;subst e1 e2;have C:=aa fun v=>dZ (a.toNat:Int) (b.toNat:Int) t v
  rw [hk] at C;have C2:=aa fun v=>uC (4+t.size) (by omega) v
  rw [show ((4+t.size:Nat):Int)=4+(t.size:Int) by omega,show 4+t.size=t.size+4 by omega] at C2;rw [e4];generalize UInt8.ofNat ((t.size+4) / 256)=hi at *;generalize UInt8.ofNat (t.size+4)=lo at *;have wb:=wB8;have mb:=mB8;clear e4 hk;go_enter func252,ntmps252
  go_wp2_with fail
  refine (uh C _).mono ?_;rintro e w2 ⟨rfl,hb2⟩;have hsz:(w.alloc (.cells #[.int .i64 a.toNat,.int .i64 b.toNat,.string t] 85)).heap.size=w.heap.size+1:=by simp
  have hO2:w2.heap[w.heap.size]?=some (.cells #[.int .i64 a.toNat,.int .i64 b.toNat,.string t] 85):=(hb2.block w.heap.size (by rw [hsz];omega)).trans (zF w _);have hlt2:w.heap.size<w2.heap.size:=(ge.1 hO2).1;have hB2:Below w.heap.size w w2:=((zC _ _).alloc (zD _) _).trans (hb2.mono (by rw [hsz];omega));have c0:w2.cell? ⟨w.heap.size,0,none⟩=some (.int .i64 a.toNat):=by rw [cr hO2];rfl
  have c1:w2.cell? ⟨w.heap.size,1,none⟩=some (.int .i64 b.toNat):=by rw [cr hO2];rfl
  have c2:w2.cell? ⟨w.heap.size,2,none⟩=some (.string t):=by rw [cr hO2];rfl
  clear hb2 hO2 C;go_wp2_with fail
  refine (uh C2 _).mono ?_;rintro e w3 ⟨rfl,hw3⟩;have hb3:Below w2.heap.size w2 w3:=by rw [hw3];exact (zC _ _).alloc (zD _) _
  have hB3:=hB2.trans (hb3.mono hB2.size);have k0:=(hb3.cell (p:=⟨w.heap.size,0,none⟩) hlt2).trans c0;have k1:=(hb3.cell (p:=⟨w.heap.size,1,none⟩) hlt2).trans c1;have k2:=(hb3.cell (p:=⟨w.heap.size,2,none⟩) hlt2).trans c2;have hs3:=hb3.size;have hl3:w.heap.size<w3.heap.size:=by omega
  have hl3':¬ (w.heap.size=w3.heap.size):=by omega
  clear hw3 hb3 c0 c1 c2 C2;have hown:((w3.alloc (.cells #[.int .u8 hi.toNat,.int .u8 lo.toNat] 306)).alloc (.cells #[.int .u8 a.toNat,.int .u8 b.toNat,.int .u8 hi.toNat,.int .u8 lo.toNat] 5)).ownsRow w.heap.size 5 1 (.slice (some ⟨w3.heap.size+1,0,none⟩) 4 4) [a,b,hi,lo].length (dg [a,b,hi,lo]):=by
   have h:((w3.alloc (.cells #[.int .u8 hi.toNat,.int .u8 lo.toNat] 306)).alloc (.cells #[.int .u8 a.toNat,.int .u8 b.toNat,.int .u8 hi.toNat,.int .u8 lo.toNat] 5)).ownsRow w.heap.size 5 1 (.slice (some ⟨(w3.alloc (.cells #[.int .u8 hi.toNat,.int .u8 lo.toNat] 306)).heap.size,0,none⟩) 4 4) 4 (#[.int .u8 a.toNat,.int .u8 b.toNat,.int .u8 hi.toNat,.int .u8 lo.toNat]:Array Value).toList:=World.ownsRow_lit _ _ 4 (by simp;omega) (by decide) rfl;rw [show (w3.alloc (.cells #[.int .u8 hi.toNat,.int .u8 lo.toNat] 306)).heap.size=w3.heap.size+1 by simp] at h;exact h
  have HOW:=aa hown;clear hown
  go_wp2_with (first
   | (at_builtin;refine jc rfl _ _ rfl w.heap.size (.slice (some ⟨w3.heap.size+1,0,none⟩) 4 4) [a,b,hi,lo] rfl (uh HOW) t rfl (by simp;omega) (by simp;omega) ?_;rintro v4 w4 ho4 hb4;replace ho4:w4.ownsRow w.heap.size 5 1 v4 (4+t.size) (dg ([a,b,hi,lo] ++ t.data.toList)):=ho4;obtain ⟨ad,cp,rfl⟩:=af ho4;have hcv:=eK ho4;clear ho4 HOW))
  go_ret
  have ht4:co [a,b,hi,lo] ++ t=co (a :: b :: hi :: lo :: t.data.toList):=(je [a,b,hi,lo] t.data.toList).symm;refine ⟨by rw [ht4];rfl,((hB3.alloc hB3.size _).alloc (by simp;omega) _).trans hb4⟩
theorem lu (p:Op.Pk) (w:World):Calls prog 105 #[.agg #[.int .i64 p.code,.int .i64 p.id,.string p.data]] w fun e w'=>e=.returned (.string (rE p))∧Below w.heap.size w w':=by
 cases hk:Op.pok p
 ·rw [mH hk];obtain ⟨x,y,t⟩:=p;have C:=aa fun v=>d7 x y t v
  rw [hk] at C;dsimp only;clear hk;go_enter func105,ntmps105
  go_wp2_with (first
   | (go_at_call 74;refine (uh C _).mono ?_;rintro e w2 ⟨rfl,hb2⟩))
  go_ret
  exact ⟨rfl,((zC _ _).alloc (zD _) _).trans (hb2.mono (by simp))⟩
 ·rw [kj hk];obtain ⟨a,b,e1,e2,e3,e4⟩:=nF hk;obtain ⟨x,y,t⟩:=p;dsimp only at e1 e2 e3 e4 ⊢;subst e1 e2;have C:=aa fun v=>d7 (a.toNat:Int) (b.toNat:Int) t v
  rw [hk] at C;have HH:=nC (k:=t.size+4) (by omega);have HL:=nD (t.size+4);rw [show ((t.size+4:Nat):Int)=(t.size:Int)+4 by omega] at HH HL;rw [e4];generalize UInt8.ofNat ((t.size+4) / 256)=hi at *;generalize UInt8.ofNat (t.size+4)=lo at *;have wb:=wB8;have mb:=mB8;have HHH:=aa HH;have HLL:=aa HL;clear e4 hk HH HL;go_enter func105,ntmps105
  go_wp2_with fail
  refine (uh C _).mono ?_;rintro e w2 ⟨rfl,hb2⟩;have hsz:(w.alloc (.cells #[.int .i64 a.toNat,.int .i64 b.toNat,.string t] 85)).heap.size=w.heap.size+1:=by simp
  have hO2:w2.heap[w.heap.size]?=some (.cells #[.int .i64 a.toNat,.int .i64 b.toNat,.string t] 85):=(hb2.block w.heap.size (by rw [hsz];omega)).trans (zF w _);have hlt2:w.heap.size<w2.heap.size:=(ge.1 hO2).1;have hB2:Below w.heap.size w w2:=((zC _ _).alloc (zD _) _).trans (hb2.mono (by rw [hsz];omega));have c0:w2.cell? ⟨w.heap.size,0,none⟩=some (.int .i64 a.toNat):=by rw [cr hO2];rfl
  have c1:w2.cell? ⟨w.heap.size,1,none⟩=some (.int .i64 b.toNat):=by rw [cr hO2];rfl
  have c2:w2.cell? ⟨w.heap.size,2,none⟩=some (.string t):=by rw [cr hO2];rfl
  have hlt2':¬ (w.heap.size=w2.heap.size):=by omega
  obtain ⟨Z,hZ,hcv,hcat⟩:∃ Z,Hid (Z=co [a,b,hi,lo])∧(convert 22 9 (.slice (some ⟨w2.heap.size,0,none⟩) 4 4)).run prog (w2.alloc (.cells #[.int .u8 a.toNat,.int .u8 b.toNat,.int .u8 (((t.size:Int)+4) / 256),.int .u8 ((t.size:Int)+4)] 5))=.ok (.string Z) (w2.alloc (.cells #[.int .u8 a.toNat,.int .u8 b.toNat,.int .u8 (((t.size:Int)+4) / 256),.int .u8 ((t.size:Int)+4)] 5))∧¬ (9223372036854775807<Z.size+t.size):=by
   refine ⟨_,aa rfl,?_,by rw [eJ];simp;omega⟩;have hlo:(t.size:Int)+4=(lo.toNat:Int):=by
    have:=uh HLL
    omega
   rw [uh HHH,hlo];have h:(w2.alloc (.cells #[.int .u8 a.toNat,.int .u8 b.toNat,.int .u8 hi.toNat,.int .u8 lo.toNat] 5)).ownsRow w2.heap.size 5 1 (.slice (some ⟨w2.heap.size,0,none⟩) 4 4) 4 (#[.int .u8 a.toNat,.int .u8 b.toNat,.int .u8 hi.toNat,.int .u8 lo.toNat]:Array Value).toList:=World.ownsRow_lit _ _ 4 (zD _) (by decide) rfl;exact eK (l:=[a,b,hi,lo]) h
  clear hb2 hO2 C HHH HLL;go_wp2
  go_ret
  refine ⟨by rw [uh hZ];rfl,hB2.alloc hB2.size _⟩
structure Cf where
 m:Nat
 a:Nat
 g:Nat
 p:Bool
 c:Bool
 d:Bool
abbrev dr (x:Cf):Array Value:=#[.int .i64 x.m,.int .i64 x.a,.int .i64 x.g,.bool x.p,.bool x.c,.bool x.d]
def iv (x:Cf):Bool:=aK x.m x.a x.g
def aD (k:Int) (x:Cf) (n:Nat):Cf :=
 if k=1 then { x with m:=n } else if k=2 then { x with a:=n } else if k=5 then { x with g:=n } else if k=9 then { x with d:=x.d && ((n:Int) != 2) } else x
def lQ (k:Int) (x:Cf):Cf :=
 if k=1 then { x with m:=300 } else if k=2 then { x with a:=4294967295 } else if k=5 then { x with g:=0 } else if k=7 then { x with p:=false } else if k=8 then { x with c:=false } else if k=9 then { x with d:=false } else x
def an (y x:Cf):Cf:=if iv y=true then y else x
def fN (x:Cf) (o:Op.Opt):Cf:=if bN o.kind=some o.data.size then an (aD o.kind x (ax o.data.data.toList)) x else x
def bF (x:Cf) (F:List Op.Opt):Cf:=F.foldl fN x
def gI (x:Cf) (F:List Op.Opt):Cf:=F.foldl (fun x o=>lQ o.kind x) x
theorem jw (x:Cf) (F:List Op.Opt) (i:Nat) (hi:i<F.length):bF x (F.take (i+1))=fN (bF x (F.take i)) F[i]:=by
 unfold bF;rw [List.take_succ_eq_append_getElem hi,List.foldl_append];rfl
theorem lS (x:Cf) (F:List Op.Opt) (i:Nat) (hi:i<F.length):gI x (F.take (i+1))=lQ F[i].kind (gI x (F.take i)):=by
 unfold gI;rw [List.take_succ_eq_append_getElem hi,List.foldl_append];rfl
theorem xy (x:Cf) (n:Nat) (w:World):Calls prog 173 #[.agg (dr x),.int .i64 n] w fun e w'=>e=.returned (.agg (dr (aD 1 x n)))∧Below w.heap.size w w':=by
 obtain ⟨m,a,g,p,c,d⟩:=x;show Calls prog 173 #[.agg #[.int .i64 m,.int .i64 a,.int .i64 g,.bool p,.bool c,.bool d],.int .i64 n] w fun e w'=>e=.returned (.agg #[.int .i64 n,.int .i64 a,.int .i64 g,.bool p,.bool c,.bool d])∧Below w.heap.size w w'
 go_enter func173,ntmps173
 go_wp2
 exact bodyPost_ret (v:=.agg #[.int .i64 n,.int .i64 a,.int .i64 g,.bool p,.bool c,.bool d]) (by simp [results,results173,go_sem]) rfl ⟨rfl,((zC _ _).alloc (zD _) _).alloc (by simp) _⟩
theorem xz (x:Cf) (n:Nat) (w:World):Calls prog 178 #[.agg (dr x),.int .i64 n] w fun e w'=>e=.returned (.agg (dr (aD 2 x n)))∧Below w.heap.size w w':=by
 obtain ⟨m,a,g,p,c,d⟩:=x;show Calls prog 178 #[.agg #[.int .i64 m,.int .i64 a,.int .i64 g,.bool p,.bool c,.bool d],.int .i64 n] w fun e w'=>e=.returned (.agg #[.int .i64 m,.int .i64 n,.int .i64 g,.bool p,.bool c,.bool d])∧Below w.heap.size w w'
 go_enter func178,ntmps178
 go_wp2
 exact bodyPost_ret (v:=.agg #[.int .i64 m,.int .i64 n,.int .i64 g,.bool p,.bool c,.bool d]) (by simp [results,results178,go_sem]) rfl ⟨rfl,((zC _ _).alloc (zD _) _).alloc (by simp) _⟩
theorem xA (x:Cf) (n:Nat) (w:World):Calls prog 184 #[.agg (dr x),.int .i64 n] w fun e w'=>e=.returned (.agg (dr (aD 5 x n)))∧Below w.heap.size w w':=by
 obtain ⟨m,a,g,p,c,d⟩:=x;show Calls prog 184 #[.agg #[.int .i64 m,.int .i64 a,.int .i64 g,.bool p,.bool c,.bool d],.int .i64 n] w fun e w'=>e=.returned (.agg #[.int .i64 m,.int .i64 a,.int .i64 n,.bool p,.bool c,.bool d])∧Below w.heap.size w w'
 go_enter func184,ntmps184
 go_wp2
 exact bodyPost_ret (v:=.agg #[.int .i64 m,.int .i64 a,.int .i64 n,.bool p,.bool c,.bool d]) (by simp [results,results184,go_sem]) rfl ⟨rfl,((zC _ _).alloc (zD _) _).alloc (by simp) _⟩
theorem xB (x:Cf) (n:Nat) (w:World):Calls prog 189 #[.agg (dr x),.int .i64 n] w fun e w'=>e=.returned (.agg (dr (aD 7 x n)))∧Below w.heap.size w w':=by
 obtain ⟨m,a,g,p,c,d⟩:=x;show Calls prog 189 #[.agg #[.int .i64 m,.int .i64 a,.int .i64 g,.bool p,.bool c,.bool d],.int .i64 n] w fun e w'=>e=.returned (.agg #[.int .i64 m,.int .i64 a,.int .i64 g,.bool p,.bool c,.bool d])∧Below w.heap.size w w'
 go_enter func189,ntmps189
 go_wp2
 exact bodyPost_ret (v:=.agg #[.int .i64 m,.int .i64 a,.int .i64 g,.bool p,.bool c,.bool d]) (by simp [results,results189,go_sem]) rfl ⟨rfl,((zC _ _).alloc (zD _) _).alloc (by simp) _⟩
theorem xC (x:Cf) (n:Nat) (w:World):Calls prog 194 #[.agg (dr x),.int .i64 n] w fun e w'=>e=.returned (.agg (dr (aD 8 x n)))∧Below w.heap.size w w':=by
 obtain ⟨m,a,g,p,c,d⟩:=x;show Calls prog 194 #[.agg #[.int .i64 m,.int .i64 a,.int .i64 g,.bool p,.bool c,.bool d],.int .i64 n] w fun e w'=>e=.returned (.agg #[.int .i64 m,.int .i64 a,.int .i64 g,.bool p,.bool c,.bool d])∧Below w.heap.size w w'
 go_enter func194,ntmps194
 go_wp2
 exact bodyPost_ret (v:=.agg #[.int .i64 m,.int .i64 a,.int .i64 g,.bool p,.bool c,.bool d]) (by simp [results,results194,go_sem]) rfl ⟨rfl,((zC _ _).alloc (zD _) _).alloc (by simp) _⟩
theorem xD (x:Cf) (n:Nat) (w:World):Calls prog 199 #[.agg (dr x),.int .i64 n] w fun e w'=>e=.returned (.agg (dr (aD 9 x n)))∧Below w.heap.size w w':=by
 obtain ⟨m,a,g,p,c,d⟩:=x;cases d
 ·show Calls prog 199 #[.agg #[.int .i64 m,.int .i64 a,.int .i64 g,.bool p,.bool c,.bool false],.int .i64 n] w fun e w'=>e=.returned (.agg #[.int .i64 m,.int .i64 a,.int .i64 g,.bool p,.bool c,.bool false])∧Below w.heap.size w w'
  go_enter func199,ntmps199
  go_wp2
  exact bodyPost_ret (v:=.agg #[.int .i64 m,.int .i64 a,.int .i64 g,.bool p,.bool c,.bool false]) (by simp [results,results199,go_sem]) rfl ⟨rfl,((zC _ _).alloc (zD _) _).alloc (by simp) _⟩
 ·show Calls prog 199 #[.agg #[.int .i64 m,.int .i64 a,.int .i64 g,.bool p,.bool c,.bool true],.int .i64 n] w fun e w'=>e=.returned (.agg #[.int .i64 m,.int .i64 a,.int .i64 g,.bool p,.bool c,.bool ((n:Int) != 2)])∧Below w.heap.size w w'
  go_enter func199,ntmps199
  go_wp2
  exact bodyPost_ret (v:=.agg #[.int .i64 m,.int .i64 a,.int .i64 g,.bool p,.bool c,.bool ((n:Int) != 2)]) (by simp [results,results199,go_sem]) rfl ⟨rfl,((zC _ _).alloc (zD _) _).alloc (by simp) _⟩
theorem wo1 (x:Cf) (w:World):Calls prog 174 #[.agg (dr x)] w fun e w'=>e=.returned (.agg (dr (lQ 1 x)))∧Below w.heap.size w w':=by
 obtain ⟨m,a,g,p,c,d⟩:=x;show Calls prog 174 #[.agg #[.int .i64 m,.int .i64 a,.int .i64 g,.bool p,.bool c,.bool d]] w fun e w'=>e=.returned (.agg #[.int .i64 300,.int .i64 a,.int .i64 g,.bool p,.bool c,.bool d])∧Below w.heap.size w w'
 go_enter func174,ntmps174
 go_wp2
 exact bodyPost_ret (v:=.agg #[.int .i64 300,.int .i64 a,.int .i64 g,.bool p,.bool c,.bool d]) (by simp [results,results174,go_sem]) rfl ⟨rfl,((zC _ _).alloc (zD _) _).alloc (by simp) _⟩
theorem wo2 (x:Cf) (w:World):Calls prog 179 #[.agg (dr x)] w fun e w'=>e=.returned (.agg (dr (lQ 2 x)))∧Below w.heap.size w w':=by
 obtain ⟨m,a,g,p,c,d⟩:=x;show Calls prog 179 #[.agg #[.int .i64 m,.int .i64 a,.int .i64 g,.bool p,.bool c,.bool d]] w fun e w'=>e=.returned (.agg #[.int .i64 m,.int .i64 4294967295,.int .i64 g,.bool p,.bool c,.bool d])∧Below w.heap.size w w'
 go_enter func179,ntmps179
 go_wp2
 exact bodyPost_ret (v:=.agg #[.int .i64 m,.int .i64 4294967295,.int .i64 g,.bool p,.bool c,.bool d]) (by simp [results,results179,go_sem]) rfl ⟨rfl,((zC _ _).alloc (zD _) _).alloc (by simp) _⟩
theorem wo5 (x:Cf) (w:World):Calls prog 185 #[.agg (dr x)] w fun e w'=>e=.returned (.agg (dr (lQ 5 x)))∧Below w.heap.size w w':=by
 obtain ⟨m,a,g,p,c,d⟩:=x;show Calls prog 185 #[.agg #[.int .i64 m,.int .i64 a,.int .i64 g,.bool p,.bool c,.bool d]] w fun e w'=>e=.returned (.agg #[.int .i64 m,.int .i64 a,.int .i64 0,.bool p,.bool c,.bool d])∧Below w.heap.size w w'
 go_enter func185,ntmps185
 go_wp2
 exact bodyPost_ret (v:=.agg #[.int .i64 m,.int .i64 a,.int .i64 0,.bool p,.bool c,.bool d]) (by simp [results,results185,go_sem]) rfl ⟨rfl,((zC _ _).alloc (zD _) _).alloc (by simp) _⟩
theorem wo7 (x:Cf) (w:World):Calls prog 190 #[.agg (dr x)] w fun e w'=>e=.returned (.agg (dr (lQ 7 x)))∧Below w.heap.size w w':=by
 obtain ⟨m,a,g,p,c,d⟩:=x;show Calls prog 190 #[.agg #[.int .i64 m,.int .i64 a,.int .i64 g,.bool p,.bool c,.bool d]] w fun e w'=>e=.returned (.agg #[.int .i64 m,.int .i64 a,.int .i64 g,.bool false,.bool c,.bool d])∧Below w.heap.size w w'
 go_enter func190,ntmps190
 go_wp2
 exact bodyPost_ret (v:=.agg #[.int .i64 m,.int .i64 a,.int .i64 g,.bool false,.bool c,.bool d]) (by simp [results,results190,go_sem]) rfl ⟨rfl,((zC _ _).alloc (zD _) _).alloc (by simp) _⟩
theorem wo8 (x:Cf) (w:World):Calls prog 195 #[.agg (dr x)] w fun e w'=>e=.returned (.agg (dr (lQ 8 x)))∧Below w.heap.size w w':=by
 obtain ⟨m,a,g,p,c,d⟩:=x;show Calls prog 195 #[.agg #[.int .i64 m,.int .i64 a,.int .i64 g,.bool p,.bool c,.bool d]] w fun e w'=>e=.returned (.agg #[.int .i64 m,.int .i64 a,.int .i64 g,.bool p,.bool false,.bool d])∧Below w.heap.size w w'
 go_enter func195,ntmps195
 go_wp2
 exact bodyPost_ret (v:=.agg #[.int .i64 m,.int .i64 a,.int .i64 g,.bool p,.bool false,.bool d]) (by simp [results,results195,go_sem]) rfl ⟨rfl,((zC _ _).alloc (zD _) _).alloc (by simp) _⟩
theorem wo9 (x:Cf) (w:World):Calls prog 200 #[.agg (dr x)] w fun e w'=>e=.returned (.agg (dr (lQ 9 x)))∧Below w.heap.size w w':=by
 obtain ⟨m,a,g,p,c,d⟩:=x;show Calls prog 200 #[.agg #[.int .i64 m,.int .i64 a,.int .i64 g,.bool p,.bool c,.bool d]] w fun e w'=>e=.returned (.agg #[.int .i64 m,.int .i64 a,.int .i64 g,.bool p,.bool c,.bool false])∧Below w.heap.size w w'
 go_enter func200,ntmps200
 go_wp2
 exact bodyPost_ret (v:=.agg #[.int .i64 m,.int .i64 a,.int .i64 g,.bool p,.bool c,.bool false]) (by simp [results,results200,go_sem]) rfl ⟨rfl,((zC _ _).alloc (zD _) _).alloc (by simp) _⟩
structure CfR (k:Int) (s f f2 f3 f4 f5 j:Nat):Prop where
 fd:Instr.findNow (.int .i64) (.int .i64 k) cI.toList 0=some (some (j,aZ s f f2 f3 f4 f5))
 cf3:∀ args W,(callFunc f3 args).run prog W=.ok (.enter f3 args) W
 cf4:∀ args W,(callFunc f4 args).run prog W=.ok (.enter f4 args) W
 ls:∀ (x:Cf) (n:Nat) v,Calls prog f3 #[.agg (dr x),.int .i64 n] v fun e w'=>e=.returned (.agg (dr (aD k x n)))∧Below v.heap.size v w'
 wo:∀ (x:Cf) v,Calls prog f4 #[.agg (dr x)] v fun e w'=>e=.returned (.agg (dr (lQ k x)))∧Below v.heap.size v w'
theorem qy (k:Int):(∃ s f f2 f3 f4 f5 j,bN k=some s∧CfR k s f f2 f3 f4 f5 j)∨(bN k=none∧(∀ x,lQ k x=x)∧Instr.findNow (.int .i64) (.int .i64 k) cI.toList 0=some none):=by
 by_cases h1:k=1
 ·subst h1;exact Or.inl ⟨2,_,_,_,_,_,_,rfl,⟨rfl,bM (by kernel_rfl),bM (by kernel_rfl),fun x n v=>xy x n v,fun x v=>wo1 x v⟩⟩
 by_cases h2:k=2
 ·subst h2;exact Or.inl ⟨4,_,_,_,_,_,_,rfl,⟨rfl,bM (by kernel_rfl),bM (by kernel_rfl),fun x n v=>xz x n v,fun x v=>wo2 x v⟩⟩
 by_cases h5:k=5
 ·subst h5;exact Or.inl ⟨4,_,_,_,_,_,_,rfl,⟨rfl,bM (by kernel_rfl),bM (by kernel_rfl),fun x n v=>xA x n v,fun x v=>wo5 x v⟩⟩
 by_cases h7:k=7
 ·subst h7;exact Or.inl ⟨0,_,_,_,_,_,_,rfl,⟨rfl,bM (by kernel_rfl),bM (by kernel_rfl),fun x n v=>xB x n v,fun x v=>wo7 x v⟩⟩
 by_cases h8:k=8
 ·subst h8;exact Or.inl ⟨0,_,_,_,_,_,_,rfl,⟨rfl,bM (by kernel_rfl),bM (by kernel_rfl),fun x n v=>xC x n v,fun x v=>wo8 x v⟩⟩
 by_cases h9:k=9
 ·subst h9;exact Or.inl ⟨1,_,_,_,_,_,_,rfl,⟨rfl,bM (by kernel_rfl),bM (by kernel_rfl),fun x n v=>xD x n v,fun x v=>wo9 x v⟩⟩
 ·refine Or.inr ⟨by simp [bN,h1,h2,h5,h7,h8,h9],fun x=>by simp [lQ,h1,h2,h5,h7,h8,h9],?_⟩;have e1:(k == 1)=false:=beq_eq_false_iff_ne.2 h1;have e2:(k == 2)=false:=beq_eq_false_iff_ne.2 h2;have e5:(k == 5)=false:=beq_eq_false_iff_ne.2 h5;have e7:(k == 7)=false:=beq_eq_false_iff_ne.2 h7;have e8:(k == 8)=false:=beq_eq_false_iff_ne.2 h8;have e9:(k == 9)=false:=beq_eq_false_iff_ne.2 h9;simp [Instr.findNow,cI,Instr.sameNow,e1,e2,e5,e7,e8,e9]
theorem xE:(prog.info? 24).map (·.size)=some 6:=by kernel_rfl
theorem jU {W:World} {E:Nat} {x0 x1 x2 x3 x4 x5:Value} (h:W.heap[E]?=some (.cells #[x0,x1,x2,x3,x4,x5] 24)):(loadVar 24 ⟨E,0,none⟩).run prog W=.ok (.agg #[x0,x1,x2,x3,x4,x5]) W :=
 run_loadVar_row (P:=prog) _ _ 24 24 #[x0,x1,x2,x3,x4,x5] (0,0) _ h underlying24 rfl xE
theorem sQ (w:World) (a b c:Obj):(((w.alloc a).alloc b).alloc c).heap[w.heap.size]?=some a∧(((w.alloc a).alloc b).alloc c).heap[w.heap.size+1]?=some b∧(((w.alloc a).alloc b).alloc c).heap[w.heap.size+1+1]?=some c∧Below w.heap.size w (((w.alloc a).alloc b).alloc c):=by
 have s1:(w.alloc a).heap.size=w.heap.size+1:=by simp
 have s2:((w.alloc a).alloc b).heap.size=w.heap.size+1+1:=by simp
 have e2:=zF (w.alloc a) b;have e3:=zF ((w.alloc a).alloc b) c;rw [s1] at e2;rw [s2] at e3;refine ⟨?_,?_,e3,(((zC _ _).alloc (zD _) _).alloc (by omega) _).alloc (by omega) _⟩
 ·rw [zG _ _ _ (by omega),zG _ _ _ (by omega)];exact zF w a
 ·rw [zG _ _ _ (by omega)];exact e2
theorem sR (y x:Cf) (w:World):Calls prog 151 #[.agg (dr y),.agg (dr x)] w fun e w'=>e=.returned (.agg (dr (an y x)))∧Below w.heap.size w w':=by
 unfold an iv;obtain ⟨m,a,g,p,c,d⟩:=y;obtain ⟨m',a',g',p',c',d'⟩:=x;have C:=aa fun v=>dm (m:Int) a g p c d v
 obtain ⟨h1,h2,h3,h4⟩:=sQ w (.cells #[.int .i64 m,.int .i64 a,.int .i64 g,.bool p,.bool c,.bool d] 24) (.cells #[.int .i64 m',.int .i64 a',.int .i64 g',.bool p',.bool c',.bool d'] 24) (.cells #[.int .i64 0,.int .i64 0,.int .i64 0,.bool false,.bool false,.bool false] 24);have H0:=aa (zA h1 (zA h2 (zA h3 h4)));clear h1 h2 h3 h4;dsimp only;cases hq:aK (m:Int) a g
 ·rw [if_neg (by decide)];rw [hq] at C;show Calls prog 151 #[.agg #[.int .i64 m,.int .i64 a,.int .i64 g,.bool p,.bool c,.bool d],.agg #[.int .i64 m',.int .i64 a',.int .i64 g',.bool p',.bool c',.bool d']] w fun e w'=>e=.returned (.agg #[.int .i64 m',.int .i64 a',.int .i64 g',.bool p',.bool c',.bool d'])∧Below w.heap.size w w'
  go_enter func151,ntmps151
  go_wp2_with fail
  refine (uh C _).mono ?_;rintro e w1 ⟨rfl,hb1⟩;obtain ⟨h1,h2,h3,h4⟩:=uh H0;have hS1:=(hb1.block (w.heap.size+1) (by simp)).trans h2;have hR1:=(hb1.block (w.heap.size+1+1) (by simp)).trans h3;have hB1:=h4.trans (hb1.mono h4.size);obtain ⟨c0,c1,c2,c3,c4,c5⟩:=aJ hS1;obtain ⟨r0,r1,r2,r3,r4,r5⟩:=aJ hR1;have f0:=aX hR1 0;have f1:=aX hR1 1;have f2:=aX hR1 2;have f3:=aX hR1 3;have f4:=aX hR1 4;have f5:=aX hR1 5;have H1:=aa (zA hR1 hB1);clear hS1 hR1 hB1 hb1 h1 h2 h3 h4 H0 C;go_wp2
  exact bodyPost_ret (v:=.agg #[.int .i64 m',.int .i64 a',.int .i64 g',.bool p',.bool c',.bool d']) (by simp [results,results151,asAddr,jU (dP (uh H1).1 (.int .i64 m') (.int .i64 a') (.int .i64 g') (.bool p') (.bool c') (.bool d'))]) rfl ⟨rfl,cv (uh H1).2 (by omega) _ _ _ _ _ _⟩
 ·rw [if_pos rfl];rw [hq] at C;show Calls prog 151 #[.agg #[.int .i64 m,.int .i64 a,.int .i64 g,.bool p,.bool c,.bool d],.agg #[.int .i64 m',.int .i64 a',.int .i64 g',.bool p',.bool c',.bool d']] w fun e w'=>e=.returned (.agg #[.int .i64 m,.int .i64 a,.int .i64 g,.bool p,.bool c,.bool d])∧Below w.heap.size w w'
  go_enter func151,ntmps151
  go_wp2_with fail
  refine (uh C _).mono ?_;rintro e w1 ⟨rfl,hb1⟩;obtain ⟨h1,h2,h3,h4⟩:=uh H0;have hS1:=(hb1.block (w.heap.size) (by simp;omega)).trans h1;have hR1:=(hb1.block (w.heap.size+1+1) (by simp)).trans h3;have hB1:=h4.trans (hb1.mono h4.size);obtain ⟨c0,c1,c2,c3,c4,c5⟩:=aJ hS1;obtain ⟨r0,r1,r2,r3,r4,r5⟩:=aJ hR1;have f0:=aX hR1 0;have f1:=aX hR1 1;have f2:=aX hR1 2;have f3:=aX hR1 3;have f4:=aX hR1 4;have f5:=aX hR1 5;have H1:=aa (zA hR1 hB1);clear hS1 hR1 hB1 hb1 h1 h2 h3 h4 H0 C;go_wp2
  exact bodyPost_ret (v:=.agg #[.int .i64 m,.int .i64 a,.int .i64 g,.bool p,.bool c,.bool d]) (by simp [results,results151,asAddr,jU (dP (uh H1).1 (.int .i64 m) (.int .i64 a) (.int .i64 g) (.bool p) (.bool c) (.bool d))]) rfl ⟨rfl,cv (uh H1).2 (by omega) _ _ _ _ _ _⟩
end Go.Proofs.YtjdgiimfpkideaaGreatDoor
