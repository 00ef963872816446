/- OptB PairO PktB -/
import Derived.Test.YtahpjlbaagkdoaaGreatDoorS04
set_option maxHeartbeats 4000000
namespace Go.Proofs.YtahpjlbaagkdoaaGreatDoor
open Go.RowKit Go.Proofs.Tryz
def otV (F:List Op.Opt):ByteArray:=txt (Op.told F)
theorem otV_no {F:List Op.Opt} (h:Op.right F=false):otV F=⟨#[]⟩:=by unfold otV Op.told;rw [if_neg (by rw [h];decide)];rfl
theorem otV_yes {F:List Op.Opt} (h:Op.right F=true):otV F=txt (Op.bytes F):=by unfold otV Op.told;rw [if_pos h]
theorem ok_get {o:Op.Opt} (h:Op.ok o=true):∃ k n:UInt8,o.kind=(k.toNat:Int)∧(o.data.size:Int)+2=(n.toNat:Int)∧o.data.size≤20∧Op.one o=[k,n] ++ o.data.data.toList:=by
  have h':=of_decide_eq_true h;refine ⟨UInt8.ofNat o.kind.toNat,UInt8.ofNat (o.data.size+2),?_,?_,h'.2.2,rfl⟩
  · have:(UInt8.ofNat o.kind.toNat).toNat=o.kind.toNat:=by simp;omega
    omega
  · have:(UInt8.ofNat (o.data.size+2)).toNat=o.data.size+2:=by simp;omega
    omega
theorem uB8:∀ c:UInt8,IntKind.u8.wrap (c.toNat:Int)=(c.toNat:Int):=fun c=>by rw [IntKind.wrap_u8];have:=c.toNat_lt;omega
theorem nB8:∀ c:UInt8,(c.toNat:Int) % 256=(c.toNat:Int):=fun c=>by have:=c.toNat_lt;omega
theorem wrap_len (t:ByteArray) (h:t.size≤20):IntKind.u8.wrap (IntKind.i64.wrap ((t.size:Int)+2))=(t.size:Int)+2:=by
  rw [IntKind.wrap_i64,IntKind.wrap_u8];omega
theorem take_bytes (F:List Op.Opt) (i:Nat) (hi:i<F.length):Op.bytes (F.take (i+1))=Op.bytes (F.take i) ++ Op.one F[i]:=by
  rw [List.take_succ_eq_append_getElem hi,Op.bytes_snoc]
theorem bytes_take_len {F:List Op.Opt} (h:Op.right F=true) (i:Nat):(Op.bytes (F.take i)).length≤440:=by
  have h1:=Op.bytes_len (l:=F.take i) fun o ho=>Op.right_all h o (List.mem_of_mem_take ho)
  have h2:=Op.right_len h;rw [List.length_take] at h1;omega
theorem implBytes0 (ad:Option Addr) (cp:Nat) (w:World):Calls prog 113 #[.slice ad 0 cp] w fun e w'=>e=.returned (.string ⟨#[]⟩)∧Below w.heap.size w w':=by
  have hcv:∀ w1:World,(convert 22 9 (.slice none 0 0)).run prog w1=.ok (.string ⟨#[]⟩) w1:=fun w1=>own_conv (l:=[]) (base:=0) ⟨rfl,Or.inl ⟨rfl,rfl⟩⟩
  go_enter func113,ntmps113
  go_wp2_with fail
  refine (implRight0 ad cp w).mono ?_;rintro e w1 ⟨rfl,hb1⟩;go_wp2_with fail
  go_loopw [3,11] (fun x y wr=>x=.slice none 0 0∧y=.int .i64 0∧wr=w1) (fun _ _ _=>0)
  case atStart=>exact ⟨rfl,rfl,rfl⟩
  case round =>
    obtain ⟨rfl,rfl,rfl⟩:=hrel;go_wp2
    go_ret
    exact ⟨rfl,hb1⟩
theorem append_bytes_g {wr:World} {cs:Array Value} {ops:Array Oper} {rest:List Oper} {o:Oper} {a:Act} {Q:Exit→Act→World→Prop} (hgd:o.guard=none) (s x:Operand)
    (ho:o.op=.call { callee:=.builtin .append,args:=#[s,x],argTypes:=#[22,22] })
    (base:Nat) (v:Value) (L news:List UInt8) (hs:a.eval s=v) (hown:wr.ownsRow base 5 1 v L.length (vals L))
    (m:Nat) (hm:news.length=m) (hx:a.eval x=.slice (some ⟨wr.heap.size,0,none⟩) m m) (hcs:cs.toList=vals news) (hlen:L.length+news.length≤10000000) (hbase:base≤wr.heap.size)
    (h:∀ v' w',w'.ownsRow base 5 1 v' (L ++ news).length (vals (L ++ news))→Below base wr w'→(∀ k,k<wr.heap.size→v.ownBlock≠some k→w'.heap[k]?=wr.heap[k]?)→wr.heap.size≤w'.heap.size→wpList prog ops Q rest (a.put o.dst v') w'):wpList prog ops Q (o :: rest) a (wr.alloc (.cells cs 5)):=by
  obtain ⟨ui,hi1,hi2,hi3,hi4⟩:=u8info;subst hm;refine wpList_append_own _ hgd s x 22 ho base 5 ui (.int .u8 0) 1 1 underlying22 hi1 hi2 hi3 hi4 rfl (by decide) v L.length (vals L) hs (hown.alloc _) ⟨wr.heap.size,0,none⟩ news.length news.length (vals news) hx (by rw [vals_len,Nat.mul_one]) ?_ ?_ ?_ ?_ ?_ ?_
  · intro i u hu
    rw [Addr.add_lit,Nat.zero_add,World.cell?_alloc_at _ _ _ _ rfl,← hu,← hcs,Array.getElem?_toList]
  · intro u hu
    simp only [vals,nums,List.map_map,List.mem_map] at hu;obtain ⟨x,_,rfl⟩:=hu;rfl
  · unfold maxLen;omega
  · omega
  · simp;omega
  · intro v' w2 hown2 hg2 _
    have hsz:=hg2.size;refine h v' w2 ?_ ?_ (fun k hk hne=>(hg2.block k (by simp;omega) (Ne.symm hne)).trans (Below.heap_alloc _ _ _ hk)) (by simp at hsz;omega)
    · rw [vals_append,List.length_append];exact hown2
    · exact ((Below.refl _ _).alloc hbase _).grown hg2 (by simp;omega) (fun q hq=>by exact (World.ownsRow.lt hown q hq).1)
theorem str_append_n {w:World} {ops:Array Oper} {rest:List Oper} {o:Oper} {a:Act} {Q:Exit→Act→World→Prop} (hgd:o.guard=none) (s x:Operand)
    (ho:o.op=.call { callee:=.builtin .append,args:=#[s,x],argTypes:=#[22,9] })
    (base:Nat) (v:Value) (L:List UInt8) (n:Nat) (hn:L.length=n) (hs:a.eval s=v) (hown:w.ownsRow base 5 1 v n (vals L)) (t:ByteArray) (hx:a.eval x=.string t) (hlen:n+t.size≤1000000) (hbase:base≤w.heap.size)
    (h:∀ v' w',w'.ownsRow base 5 1 v' (n+t.size) (vals (L ++ t.data.toList))→Below base w w'→wpList prog ops Q rest (a.put o.dst v') w'):wpList prog ops Q (o :: rest) a w:=by
  subst hn;exact str_append hgd s x ho base v L hs hown t hx hlen hbase h
theorem implBytesG (g cp:Nat) (F:List Op.Opt) (cur:Array Value) (w:World) (hm:F.length≤maxLen) (h1:w.heap[g]?=some (.cells cur 116)) (a1:∀ j,j<F.length*2→cur[j]?=(ocells F)[j]?) :
    Calls prog 113 #[.slice (some ⟨g,0,none⟩) F.length cp] w fun e w'=>e=.returned (.string (otV F))∧Below w.heap.size w w':=by
  have C:=hide (implRightG g cp F cur w hm h1 a1);have hl1:g<w.heap.size:=(ge.1 h1).1;obtain ⟨n,hn⟩:∃ n,F.length=n:=⟨_,rfl⟩;cases hr:Op.right F
  · rw [hr] at C
    rw [otV_no hr,hn];rw [hn] at C;clear hr a1;go_enter func113,ntmps113
    go_wp2_with fail
    refine (uh C).mono ?_;rintro e w1 ⟨rfl,hb1⟩;go_wp2
    go_ret
    exact ⟨rfl,hb1⟩
  · rw [hr] at C
    rw [otV_yes hr,hn];rw [hn] at C;have hn20:=Op.right_len hr;have HA:Hid (∀ i (hi:i<n),cur[i*2]?=some (.int .i64 (F[i]'(by omega)).kind)∧cur[i*2+1]?=some (.string (F[i]'(by omega)).data)):=by
      refine hide fun i hi=>?_
      have q:=ocells_get F i (F[i]'(by omega)) (List.getElem?_eq_getElem (by omega));exact ⟨(a1 _ (by omega)).trans q.1,(a1 _ (by omega)).trans q.2⟩
    have HK:Hid (∀ i (hi:i<n),Op.ok (F[i]'(by omega))=true):=hide fun i hi=>Op.right_all hr _ (List.getElem_mem _)
    have HT:Hid (∀ i (hi:i<n),Op.bytes (F.take (i+1))=Op.bytes (F.take i) ++ Op.one (F[i]'(by omega))):=hide fun i hi=>take_bytes F i (by omega)
    have HLB:Hid (∀ i,(Op.bytes (F.take i)).length≤440):=hide fun i=>bytes_take_len hr i
    have HEND:Hid (F.take n=F):=hide (List.take_of_length_le (by omega));clear a1 hm hr;go_enter func113,ntmps113
    go_wp2_with fail
    refine (uh C).mono ?_;rintro e w1 ⟨rfl,hb1⟩;clear C;go_wp2_with fail
    go_loopw [3,11] (fun x y wr=>∃ (i:Nat),i≤n∧y=.int .i64 i∧(∃ a c,x=.slice a (Op.bytes (F.take i)).length c)∧wr.ownsRow w.heap.size 5 1 x (Op.bytes (F.take i)).length (vals (Op.bytes (F.take i)))∧Below w.heap.size w wr) (fun _ y _=>n - (intOf y).toNat)
    case atStart=>exact ⟨0,Nat.zero_le _,rfl,⟨_,_,rfl⟩,⟨rfl,Or.inl ⟨rfl,rfl⟩⟩,hb1⟩
    case round =>
      obtain ⟨i,hi,rfl,⟨xa,xc,rfl⟩,hown,hb⟩:=hrel;have hbs:=hb.size;by_cases hlt:i<n
      · have d1:(i:Int)<(n:Int):=by omega
        obtain ⟨q1,q2⟩:=uh HA i hlt;have e1:=(hb.block g hl1).trans h1;have hbt:=uh HT i hlt;have hlb:=uh HLB i;obtain ⟨k,m,hk,hm2,hd20,hone⟩:=ok_get (uh HK i hlt);generalize hO:F[i]'(by omega)=op at *;obtain ⟨kd,dt⟩:=op;dsimp only at q1 q2 hk hm2 hd20 hone;subst hk;have k0:wr.cell? ⟨g,i*2,none⟩=some (.int .i64 k.toNat):=by rw [cr e1];exact q1
        have k1:wr.cell? ⟨g,i*2+1,none⟩=some (.string dt):=by rw [cr e1];exact q2
        rw [hone] at hbt;have HBT:=hide hbt;generalize Op.bytes (F.take i)=L at *;have HM:Hid (2+(dt.size:Int)=(m.toNat:Int)):=hide (by omega);have HOW:=hide hown;have wb:=uB8;have mb:=nB8;have hgr:g<wr.heap.size:=Nat.lt_of_lt_of_le hl1 hbs;have hgr':¬ (g=wr.heap.size):=by omega
        have HNE:Hid ((Value.slice xa L.length xc).ownBlock≠some wr.heap.size):=hide fun e=>by have:=World.ownsRow.lt (uh HOW) _ e;omega
        have hmlt:=m.toNat_lt;clear q1 q2 e1 hbt hone hO hown HA HK HT HLB h1;go_upto_region 7 with fail
        refine gen_world (fun q=>q.heap[wr.heap.size]?=some (.cells #[.int .i64 k.toNat,.string dt] 116)∧q.ownsRow w.heap.size 5 1 (.slice xa L.length xc) L.length (vals L)∧Below w.heap.size w q∧wr.heap.size<q.heap.size)
          ⟨heap_alloc_new wr _,(uh HOW).alloc _,hb.alloc hbs _,by simp⟩ ?_
        rintro q ⟨hop,hoq,hbq,hlq⟩;have c0:q.cell? ⟨wr.heap.size,0,none⟩=some (.int .i64 k.toNat):=by rw [cr hop];rfl
        have c1:q.cell? ⟨wr.heap.size,1,none⟩=some (.string dt):=by rw [cr hop];rfl
        have HOQ:=hide hoq;have HOP:=hide hop;have hbqs:=hbq.size;clear hop hoq k0 k1 HOW hgr hgr'
        go_wp2_with (first
          | (at_builtin;refine append_bytes_g rfl _ _ rfl w.heap.size (.slice xa L.length xc) L [k,m] rfl (uh HOQ) 2 rfl rfl (by show [_,_]=vals [k,m];rw [vals_two,← uh HM]) (by simp;omega) hbqs ?_;rintro v2 w2 ho2 hb2 hk2 hs2;rw [show (L ++ [k,m]).length=L.length+2 by simp] at ho2;obtain ⟨a2,c2,rfl⟩:=own_form ho2;have hop2:=(hk2 wr.heap.size hlq (uh HNE)).trans (uh HOP);have e1:w2.cell? ⟨wr.heap.size,1,none⟩=some (.string dt):=by { rw [cr hop2];rfl };have hB2:=hbq.trans hb2;have hB2s:=hB2.size;have HO2:=hide ho2;clear ho2 hop2 hk2 hb2 HOQ HOP HNE HM)
          | (at_builtin;refine str_append_n rfl _ _ rfl w.heap.size _ (L ++ [k,m]) (L.length+2) (by simp) rfl (uh HO2) dt rfl (by omega) hB2s ?_;rintro v3 w3 ho3 hb3;obtain ⟨a3,c3,rfl⟩:=own_form ho3;have HO3:=hide ho3;clear ho3 HO2))
        go_roundw
        case rel =>
          have hdl:dt.data.toList.length=dt.size:=by rw [Array.length_toList];rfl
          have hlen:L.length+2+dt.size=(Op.bytes (F.take (i+1))).length:=by rw [uh HBT,List.length_append,List.length_append,hdl];simp;omega
          have hbys:L ++ [k,m] ++ dt.data.toList=Op.bytes (F.take (i+1)):=by rw [uh HBT,List.append_assoc]
          refine ⟨i+1,by omega,by go_num,⟨a3,c3,by rw [← hlen]⟩,?_,hB2.trans hb3⟩;have h:=uh HO3;rw [hlen,hbys] at h;rw [hlen];exact h
        case measure=>simp [intOf];omega
      · have e:i=n:=by omega
        subst e;have d1:¬ ((i:Int)<(i:Int)):=by omega
        rw [uh HEND] at hown ⊢;have hcv:=own_conv hown;go_wp2
        go_ret
        exact ⟨rfl,hb⟩
theorem implBytesAll (v:Value) (F:List Op.Opt) (w:World) (hm:F.length≤maxLen) (h:HoldsO w v F) :
    Calls prog 113 #[v] w fun e w'=>e=.returned (.string (otV F))∧Below w.heap.size w w':=by
  rcases h with ⟨ad,cp,rfl,rfl⟩ | ⟨g,cp,cur,rfl,h2,_,h4⟩
  · exact implBytes0 ad cp w
  · exact implBytesG g cp F cur w hm h2 h4
theorem specBy0 (ad:Option Addr) (cp:Nat) (w:World):Calls prog 48 #[.slice ad 0 cp] w fun e w'=>e=.returned (.string ⟨#[]⟩)∧Below w.heap.size w w':=by
  have h0:(w.alloc (.cells #[] 5)).ownsRow w.heap.size 5 1 (.slice (some ⟨w.heap.size,0,none⟩) 0 0) 0 (vals []):=World.ownsRow_lit w #[] 0 (by omega) (Nat.zero_le _) rfl;have hcv:=own_conv h0;go_enter func48,ntmps48
  go_wp2_with fail
  go_loopw [3,4] (fun x y wr=>x=.slice (some ⟨w.heap.size,0,none⟩) 0 0∧y=.int .i64 0∧wr=w.alloc (.cells #[] 5)) (fun _ _ _=>0)
  case atStart=>exact ⟨rfl,rfl,rfl⟩
  case round =>
    obtain ⟨rfl,rfl,rfl⟩:=hrel;go_wp2
    go_ret
    exact ⟨rfl,(Below.refl _ _).alloc (Nat.le_refl _) _⟩
theorem specByG (g cp:Nat) (F:List Op.Opt) (cur:Array Value) (w:World) (hr:Op.right F=true) (h1:w.heap[g]?=some (.cells cur 116)) (a1:∀ j,j<F.length*2→cur[j]?=(ocells F)[j]?) :
    Calls prog 48 #[.slice (some ⟨g,0,none⟩) F.length cp] w fun e w'=>e=.returned (.string (txt (Op.bytes F)))∧Below w.heap.size w w':=by
  obtain ⟨ui,hi1,hi2,hi3,hi4⟩:=u8info;have hl1:g<w.heap.size:=(ge.1 h1).1;obtain ⟨n,hn⟩:∃ n,F.length=n:=⟨_,rfl⟩;rw [hn];have hn20:=Op.right_len hr;have HA:Hid (∀ i (hi:i<n),cur[i*2]?=some (.int .i64 (F[i]'(by omega)).kind)∧cur[i*2+1]?=some (.string (F[i]'(by omega)).data)):=by
    refine hide fun i hi=>?_
    have q:=ocells_get F i (F[i]'(by omega)) (List.getElem?_eq_getElem (by omega));exact ⟨(a1 _ (by omega)).trans q.1,(a1 _ (by omega)).trans q.2⟩
  have HK:Hid (∀ i (hi:i<n),Op.ok (F[i]'(by omega))=true):=hide fun i hi=>Op.right_all hr _ (List.getElem_mem _)
  have HT:Hid (∀ i (hi:i<n),Op.bytes (F.take (i+1))=Op.bytes (F.take i) ++ Op.one (F[i]'(by omega))):=hide fun i hi=>take_bytes F i (by omega)
  have HLB:Hid (∀ i,(Op.bytes (F.take i)).length≤440):=hide fun i=>bytes_take_len hr i
  have HEND:Hid (F.take n=F):=hide (List.take_of_length_le (by omega));clear a1 hr;go_enter func48,ntmps48
  go_wp2_with fail
  go_loopw [3,4] (fun x y wr=>∃ (i:Nat),i≤n∧y=.int .i64 i∧(∃ a c,x=.slice a (Op.bytes (F.take i)).length c)∧wr.ownsRow w.heap.size 5 1 x (Op.bytes (F.take i)).length (vals (Op.bytes (F.take i)))∧Below w.heap.size w wr) (fun _ y _=>n - (intOf y).toNat)
  case atStart=>exact ⟨0,Nat.zero_le _,rfl,⟨_,_,rfl⟩,World.ownsRow_lit w #[] 0 (by omega) (Nat.zero_le _) rfl,(Below.refl _ _).alloc (Nat.le_refl _) _⟩
  case round =>
    obtain ⟨i,hi,rfl,⟨xa,xc,rfl⟩,hown,hb⟩:=hrel;have hbs:=hb.size;by_cases hlt:i<n
    · have d1:(i:Int)<(n:Int):=by omega
      have d0:(0:Int)≤(i:Int):=by omega
      obtain ⟨q1,q2⟩:=uh HA i hlt;have e1:=(hb.block g hl1).trans h1;have hbt:=uh HT i hlt;have hlb:=uh HLB i;obtain ⟨k,m,hk,hm2,hd20,hone⟩:=ok_get (uh HK i hlt);generalize hO:F[i]'(by omega)=op at *;obtain ⟨kd,dt⟩:=op;dsimp only at q1 q2 hk hm2 hd20 hone;subst hk;have k0:wr.cell? ⟨g,i*2,none⟩=some (.int .i64 k.toNat):=by rw [cr e1];exact q1
      have k1:wr.cell? ⟨g,i*2+1,none⟩=some (.string dt):=by rw [cr e1];exact q2
      rw [hone] at hbt;have HBT:=hide hbt;generalize Op.bytes (F.take i)=L at *;have HM:Hid ((dt.size:Int)+2=(m.toNat:Int)):=hide hm2;have HOW:=hide hown;have wb:=uB8;have mb:=nB8;have hgr:g<wr.heap.size:=Nat.lt_of_lt_of_le hl1 hbs;have hNE:(Value.slice xa L.length xc).ownBlock≠some g:=fun e=>by have:=World.ownsRow.lt (uh HOW) _ e;omega
      have HC:Hid ([Value.int .u8 (k.toNat:Int),.int .u8 (IntKind.u8.wrap (IntKind.i64.wrap ((dt.size:Int)+2)))]=vals [k,m]):=hide (by rw [vals_two,← hm2,wrap_len dt hd20]);clear q1 q2 e1 hbt hone hO hown HA HK HT HLB h1 hm2;go_wp2_with fail
      go_region_held3 (fun z=>z.cell? ⟨g,i*2,none⟩=some (.int .i64 k.toNat)∧z.cell? ⟨g,i*2+1,none⟩=some (.string dt))
        (first
          | go_keep
          | (go_split_ands
             refine ⟨?_,?_⟩
             · (rw [hgrow.cell_far _ (by simp;omega) (Ne.symm hNE)];assumption)
             · (rw [hgrow.cell_far _ (by simp;omega) (Ne.symm hNE)];assumption)))
        ((refine step_append_lies _ (by rfl) _ _ _ (by rfl) w.heap.size 5 ui _ 1 1 underlying22 hi1 hi2 hi3 hi4 rfl (by omega) (.slice xa L.length xc) L.length (vals L) (by rfl) (((uh HOW).alloc _).drew)
            ⟨wr.heap.size,0,none⟩ 2 2 [.int .u8 k.toNat,.int .u8 (IntKind.u8.wrap (IntKind.i64.wrap ((dt.size:Int)+2)))] (by rfl) (by rfl) (World.news_of_block (cs:=#[.int .u8 k.toNat,.int .u8 (IntKind.u8.wrap (IntKind.i64.wrap ((dt.size:Int)+2)))]) (t:=5) (fr:=(0,0)) (heap_alloc_new wr _)) (by simp [Value.oneCell'])
            (by omega) (by unfold maxLen;omega) (by omega) (by simp;omega) (wr.heap.size+1) (by simp) ?_;intro gg cap3 w3 hown3 hgrow hat hlt3))
      all_goals
        rw [uh HC,← vals_append] at hown3;have e1:w3.cell? ⟨g,i*2+1,none⟩=some (.string dt):=by
          rw [hgrow.cell_far ⟨g,i*2+1,none⟩ (by simp;omega) (Ne.symm hNE)];exact (((Below.refl wr.heap.size wr).alloc (Nat.le_refl _) _).drew.cell (p:=⟨g,i*2+1,none⟩) hgr).trans k1
        have hbw3:Below w.heap.size w w3:=((hb.alloc hbs _).drew).grown hgrow (by simp;omega) (fun p hp=>(World.ownsRow.lt (uh HOW) p hp).1);have hbs3:=hbw3.size;have HO2:=hide hown3;clear hown3 hgrow hat HOW HC HM k0 k1
        go_wp2_with (first
          | (at_builtin;refine str_append_n rfl _ _ rfl w.heap.size _ (L ++ [k,m]) (L.length+2) (by simp) rfl (uh HO2) dt rfl (by omega) hbs3 ?_;rintro v3 w4 ho3 hb3;obtain ⟨a3,c3,rfl⟩:=own_form ho3;have HO3:=hide ho3;clear ho3 HO2))
        go_roundw
        case rel =>
          have hdl:dt.data.toList.length=dt.size:=by rw [Array.length_toList];rfl
          have hlen:L.length+2+dt.size=(Op.bytes (F.take (i+1))).length:=by rw [uh HBT,List.length_append,List.length_append,hdl];simp;omega
          have hbys:L ++ [k,m] ++ dt.data.toList=Op.bytes (F.take (i+1)):=by rw [uh HBT,List.append_assoc]
          refine ⟨i+1,by omega,by go_num,⟨a3,c3,by rw [← hlen]⟩,?_,hbw3.trans hb3⟩;have h:=uh HO3;rw [hlen,hbys] at h;rw [hlen];exact h
        case measure=>simp [intOf];omega
    · have e:i=n:=by omega
      subst e;have d1:¬ ((i:Int)<(i:Int)):=by omega
      rw [uh HEND] at hown ⊢;have hcv:=own_conv hown;go_wp2
      go_ret
      exact ⟨rfl,hb⟩
theorem specBytesAll (v:Value) (F:List Op.Opt) (w:World) (hm:F.length≤maxLen) (h:HoldsO w v F) :
    Calls prog 31 #[v] w fun e w'=>e=.returned (.string (otV F))∧Below w.heap.size w w':=by
  have C:=hide (specRightAll v F w hm h);obtain ⟨ad,cp,hv⟩:=h.form;cases hr:Op.right F
  · rw [hr] at C
    rw [otV_no hr];subst hv;clear hr;go_enter func31,ntmps31
    go_wp2_with fail
    refine (uh C).mono ?_;rintro e w1 ⟨rfl,hb1⟩;go_wp2
    go_ret
    exact ⟨rfl,hb1⟩
  · rw [hr] at C
    rw [otV_yes hr];have C2:Hid (∀ w1,Below w.heap.size w w1→Calls prog 48 #[v] w1 fun e w'=>e=.returned (.string (txt (Op.bytes F)))∧Below w1.heap.size w1 w'):=by
      refine hide fun w1 hb=>?_
      rcases h.below hb rfl with ⟨ad,cp,rfl,rfl⟩ | ⟨g,cp,cur,rfl,h2,_,h4⟩
      · exact specBy0 ad cp w1
      · exact specByG g cp F cur w1 hr h2 h4
    subst hv;generalize txt (Op.bytes F)=V at *;clear hr h;go_enter func31,ntmps31
    go_wp2_with fail
    refine (uh C).mono ?_;rintro e w1 ⟨rfl,hb1⟩;go_wp2_with fail
    refine (uh C2 _ hb1).mono ?_;rintro e w2 ⟨rfl,hb2⟩;go_wp2
    go_ret
    exact ⟨rfl,hb1.trans (hb2.mono hb1.size)⟩
theorem hi_byte {k:Nat} (hk:k<65536):(k:Int) / 256=((UInt8.ofNat (k / 256)).toNat:Int):=by
 have:(UInt8.ofNat (k / 256)).toNat=k / 256:=by simp;omega
 omega
theorem lo_byte (k:Nat):(k:Int) % 256=((UInt8.ofNat k).toNat:Int):=by
 have:(UInt8.ofNat k).toNat=k % 256:=by simp
 omega
theorem pairOf (k:Nat) (hk:k<65536) (w:World) :
  Calls prog 246 #[.int .i64 k] w fun e w'=>e=.returned (.agg #[.int .u8 (UInt8.ofNat (k / 256)).toNat,  .int .u8 (UInt8.ofNat k).toNat])∧w'=w.alloc (.cells #[.int .u8 (UInt8.ofNat (k / 256)).toNat,.int .u8 (UInt8.ofNat k).toNat] 300):=by
 rw [← hi_byte hk,← lo_byte k];go_enter func246,ntmps246
 go_wp2
 refine bodyPost_ret (v:=.agg #[.int .u8 ((k:Int) / 256),.int .u8 ((k:Int) % 256)]) (by simp [results,results246,go_sem]) rfl ⟨rfl,rfl⟩
theorem pok_ways (p:Op.Pk) (P:Prop) (h1:¬ (0≤p.code∧p.code≤255)→Op.pok p=false→P) (h2:0≤p.code∧p.code≤255→¬ (0≤p.id∧p.id≤255)→Op.pok p=false→P)
  (h3:0≤p.code∧p.code≤255→0≤p.id∧p.id≤255→250<p.data.size→Op.pok p=false→P) (h4:0≤p.code∧p.code≤255→0≤p.id∧p.id≤255→p.data.size≤250→Op.pok p=true→P):P:=by
 by_cases a:0≤p.code∧p.code≤255
 ·by_cases b:0≤p.id∧p.id≤255
  ·by_cases c:p.data.size≤250
   ·exact h4 a b c (decide_eq_true (by omega))
   ·exact h3 a b (by omega) (decide_eq_false (by omega))
  ·exact h2 a b (decide_eq_false (by omega))
 ·exact h1 a (decide_eq_false (by omega))
theorem in255 {x:Int} (h:0≤x∧x≤255):(decide (0≤x) && decide (x≤255))=true:=by simp;omega
theorem out255 {x:Int} (h:¬ (0≤x∧x≤255)):(decide (0≤x) && decide (x≤255))=false:=by simp;omega
theorem implPkRight_at (x y:Int) (t:ByteArray) (w:World):Calls prog 44 #[.agg #[.int .i64 x,.int .i64 y,.string t]] w fun e w'=>e=.returned (.bool (Op.pok ⟨x,y,t⟩))∧Below w.heap.size w w':=by
 have C1:=hide fun v=>byteR x v
 have C2:=hide fun v=>byteR y v
 obtain ⟨R,hR⟩:∃ R,Op.pok ⟨x,y,t⟩=R:=⟨_,rfl⟩;rw [hR];refine pok_ways ⟨x,y,t⟩ _ (fun a r=>?_) (fun a b r=>?_) (fun a b c r=>?_) (fun a b c r=>?_)
 all_goals
  dsimp only at a;rw [hR] at r;subst r;clear hR
 ·rw [out255 a] at C1;clear a C2;go_enter func44,ntmps44
  go_wp2_with (first
   | (go_at_call 80;refine (uh C1 _).mono ?_;rintro e w2 ⟨rfl,rfl⟩))
  go_ret
  exact ⟨rfl,(Below.refl _ _).alloc (Nat.le_refl _) _⟩
 ·dsimp only at b;rw [in255 a] at C1;rw [out255 b] at C2;clear a b;go_enter func44,ntmps44
  go_wp2_with fail
  refine (uh C1 _).mono ?_;rintro e w2 ⟨rfl,rfl⟩;go_wp2_with fail
  refine (uh C2 _).mono ?_;rintro e w2 ⟨rfl,rfl⟩;go_wp2
  go_ret
  exact ⟨rfl,(Below.refl _ _).alloc (Nat.le_refl _) _⟩
 ·dsimp only at b c;rw [in255 a] at C1;rw [in255 b] at C2;have f1:decide ((t.size:Int)≤250)=false:=decide_eq_false (by omega);clear a b c;go_enter func44,ntmps44
  go_wp2_with fail
  refine (uh C1 _).mono ?_;rintro e w2 ⟨rfl,rfl⟩;go_wp2_with fail
  refine (uh C2 _).mono ?_;rintro e w2 ⟨rfl,rfl⟩;go_wp2
  go_ret
  exact ⟨rfl,(Below.refl _ _).alloc (Nat.le_refl _) _⟩
 ·dsimp only at b c;rw [in255 a] at C1;rw [in255 b] at C2;have f1:decide ((t.size:Int)≤250)=true:=decide_eq_true (by omega);clear a b c;go_enter func44,ntmps44
  go_wp2_with fail
  refine (uh C1 _).mono ?_;rintro e w2 ⟨rfl,rfl⟩;go_wp2_with fail
  refine (uh C2 _).mono ?_;rintro e w2 ⟨rfl,rfl⟩;go_wp2
  go_ret
  exact ⟨rfl,(Below.refl _ _).alloc (Nat.le_refl _) _⟩
theorem specByte (x:Int) (w:World):Calls prog 73 #[.int .i64 x] w fun e w'=>e=.returned (.bool (decide (0≤x) && decide (x≤255)))∧w'=w:=by
 have C:=hide fun v=>specIs255 x 0 v
 go_enter func73,ntmps73
 go_wp2_with fail
 refine (uh C _).mono ?_;rintro e w2 ⟨rfl,hw⟩;replace hw:=hw.symm;subst hw;go_wp2
 go_ret
 exact ⟨rfl,rfl⟩
theorem specPkRight_at (x y:Int) (t:ByteArray) (w:World):Calls prog 46 #[.agg #[.int .i64 x,.int .i64 y,.string t]] w fun e w'=>e=.returned (.bool (Op.pok ⟨x,y,t⟩))∧Below w.heap.size w w':=by
 have C1:=hide fun v=>specByte x v
 have C2:=hide fun v=>specByte y v
 obtain ⟨R,hR⟩:∃ R,Op.pok ⟨x,y,t⟩=R:=⟨_,rfl⟩;rw [hR];refine pok_ways ⟨x,y,t⟩ _ (fun a r=>?_) (fun a b r=>?_) (fun a b c r=>?_) (fun a b c r=>?_)
 all_goals
  dsimp only at a;rw [hR] at r;subst r;clear hR
 ·rw [out255 a] at C1;clear a C2;go_enter func46,ntmps46
  go_wp2_with (first
   | (go_at_call 73;refine (uh C1 _).mono ?_;rintro e w2 ⟨rfl,rfl⟩))
  go_ret
  exact ⟨rfl,(Below.refl _ _).alloc (Nat.le_refl _) _⟩
 ·dsimp only at b;rw [in255 a] at C1;rw [out255 b] at C2;clear a b;go_enter func46,ntmps46
  go_wp2_with fail
  refine (uh C1 _).mono ?_;rintro e w2 ⟨rfl,rfl⟩;go_wp2_with fail
  refine (uh C2 _).mono ?_;rintro e w2 ⟨rfl,rfl⟩;go_wp2
  go_ret
  exact ⟨rfl,(Below.refl _ _).alloc (Nat.le_refl _) _⟩
 ·dsimp only at b c;rw [in255 a] at C1;rw [in255 b] at C2;have f1:decide ((t.size:Int)≤250)=false:=decide_eq_false (by omega);clear a b c;go_enter func46,ntmps46
  go_wp2_with fail
  refine (uh C1 _).mono ?_;rintro e w2 ⟨rfl,rfl⟩;go_wp2_with fail
  refine (uh C2 _).mono ?_;rintro e w2 ⟨rfl,rfl⟩;go_wp2
  go_ret
  exact ⟨rfl,(Below.refl _ _).alloc (Nat.le_refl _) _⟩
 ·dsimp only at b c;rw [in255 a] at C1;rw [in255 b] at C2;have f1:decide ((t.size:Int)≤250)=true:=decide_eq_true (by omega);clear a b c;go_enter func46,ntmps46
  go_wp2_with fail
  refine (uh C1 _).mono ?_;rintro e w2 ⟨rfl,rfl⟩;go_wp2_with fail
  refine (uh C2 _).mono ?_;rintro e w2 ⟨rfl,rfl⟩;go_wp2
  go_ret
  exact ⟨rfl,(Below.refl _ _).alloc (Nat.le_refl _) _⟩
theorem byte_of {x:Int} (h:0≤x∧x≤255):∃ c:UInt8,x=(c.toNat:Int)∧UInt8.ofNat x.toNat=c:=by
 refine ⟨UInt8.ofNat x.toNat,?_,rfl⟩;have:(UInt8.ofNat x.toNat).toNat=x.toNat:=by simp;omega
 omega
theorem pok_get {p:Op.Pk} (h:Op.pok p=true):∃ a b:UInt8,p.code=(a.toNat:Int)∧p.id=(b.toNat:Int)∧p.data.size≤250∧Op.phead p=[a,b,UInt8.ofNat ((p.data.size+4) / 256),UInt8.ofNat (p.data.size+4)]:=by
 have h':=of_decide_eq_true h;obtain ⟨a,ha,ha2⟩:=byte_of (x:=p.code) ⟨h'.1,h'.2.1⟩;obtain ⟨b,hb,hb2⟩:=byte_of (x:=p.id) ⟨h'.2.2.1,h'.2.2.2.1⟩;refine ⟨a,b,ha,hb,h'.2.2.2.2,?_⟩;unfold Op.phead;rw [ha2,hb2]
theorem wB8:∀ c:UInt8,IntKind.u8.wrap (c.toNat:Int)=(c.toNat:Int):=fun c=>by rw [IntKind.wrap_u8];have:=c.toNat_lt;omega
theorem mB8:∀ c:UInt8,(c.toNat:Int) % 256=(c.toNat:Int):=fun c=>by have:=c.toNat_lt;omega
def ptV (p:Op.Pk):ByteArray:=txt (Op.ptold p)
theorem ptV_no {p:Op.Pk} (h:Op.pok p=false):ptV p=⟨#[]⟩:=by unfold ptV Op.ptold;rw [if_neg (by rw [h];decide)];rfl
theorem ptV_yes {p:Op.Pk} (h:Op.pok p=true):ptV p=txt (Op.phead p) ++ p.data:=by
 unfold ptV Op.ptold;rw [if_pos h,txt_append];rfl
theorem implPkBytes (p:Op.Pk) (w:World):Calls prog 245 #[.agg #[.int .i64 p.code,.int .i64 p.id,.string p.data]] w fun e w'=>e=.returned (.string (ptV p))∧Below w.heap.size w w':=by
 cases hk:Op.pok p
 ·rw [ptV_no hk];obtain ⟨x,y,t⟩:=p;have C:=hide fun v=>implPkRight_at x y t v
  rw [hk] at C;dsimp only;clear hk;go_enter func245,ntmps245
  go_wp2_with (first
   | (go_at_call 44;refine (uh C _).mono ?_;rintro e w2 ⟨rfl,hb2⟩))
  go_ret
  exact ⟨rfl,((Below.refl _ _).alloc (Nat.le_refl _) _).trans (hb2.mono (by simp))⟩
 ·rw [ptV_yes hk];obtain ⟨a,b,e1,e2,e3,e4⟩:=pok_get hk;obtain ⟨x,y,t⟩:=p;dsimp only at e1 e2 e3 e4 ⊢;subst e1 e2;have C:=hide fun v=>implPkRight_at (a.toNat:Int) (b.toNat:Int) t v
  rw [hk] at C;have C2:=hide fun v=>pairOf (4+t.size) (by omega) v
  rw [show ((4+t.size:Nat):Int)=4+(t.size:Int) by omega,show 4+t.size=t.size+4 by omega] at C2;rw [e4];generalize UInt8.ofNat ((t.size+4) / 256)=hi at *;generalize UInt8.ofNat (t.size+4)=lo at *;have wb:=wB8;have mb:=mB8;clear e4 hk;go_enter func245,ntmps245
  go_wp2_with fail
  refine (uh C _).mono ?_;rintro e w2 ⟨rfl,hb2⟩;have hsz:(w.alloc (.cells #[.int .i64 a.toNat,.int .i64 b.toNat,.string t] 35)).heap.size=w.heap.size+1:=by simp
  have hO2:w2.heap[w.heap.size]?=some (.cells #[.int .i64 a.toNat,.int .i64 b.toNat,.string t] 35):=(hb2.block w.heap.size (by rw [hsz];omega)).trans (heap_alloc_new w _);have hlt2:w.heap.size<w2.heap.size:=(ge.1 hO2).1;have hB2:Below w.heap.size w w2:=((Below.refl _ _).alloc (Nat.le_refl _) _).trans (hb2.mono (by rw [hsz];omega));have c0:w2.cell? ⟨w.heap.size,0,none⟩=some (.int .i64 a.toNat):=by rw [cr hO2];rfl
  have c1:w2.cell? ⟨w.heap.size,1,none⟩=some (.int .i64 b.toNat):=by rw [cr hO2];rfl
  have c2:w2.cell? ⟨w.heap.size,2,none⟩=some (.string t):=by rw [cr hO2];rfl
  clear hb2 hO2 C;go_wp2_with fail
  refine (uh C2 _).mono ?_;rintro e w3 ⟨rfl,hw3⟩;have hb3:Below w2.heap.size w2 w3:=by rw [hw3];exact (Below.refl _ _).alloc (Nat.le_refl _) _
  have hB3:=hB2.trans (hb3.mono hB2.size);have k0:=(hb3.cell (p:=⟨w.heap.size,0,none⟩) hlt2).trans c0;have k1:=(hb3.cell (p:=⟨w.heap.size,1,none⟩) hlt2).trans c1;have k2:=(hb3.cell (p:=⟨w.heap.size,2,none⟩) hlt2).trans c2;have hs3:=hb3.size;have hl3:w.heap.size<w3.heap.size:=by omega
  have hl3':¬ (w.heap.size=w3.heap.size):=by omega
  clear hw3 hb3 c0 c1 c2 C2;have hown:((w3.alloc (.cells #[.int .u8 hi.toNat,.int .u8 lo.toNat] 300)).alloc (.cells #[.int .u8 a.toNat,.int .u8 b.toNat,.int .u8 hi.toNat,.int .u8 lo.toNat] 5)).ownsRow w.heap.size 5 1 (.slice (some ⟨w3.heap.size+1,0,none⟩) 4 4) [a,b,hi,lo].length (vals [a,b,hi,lo]):=by
   have h:((w3.alloc (.cells #[.int .u8 hi.toNat,.int .u8 lo.toNat] 300)).alloc (.cells #[.int .u8 a.toNat,.int .u8 b.toNat,.int .u8 hi.toNat,.int .u8 lo.toNat] 5)).ownsRow w.heap.size 5 1 (.slice (some ⟨(w3.alloc (.cells #[.int .u8 hi.toNat,.int .u8 lo.toNat] 300)).heap.size,0,none⟩) 4 4) 4 (#[.int .u8 a.toNat,.int .u8 b.toNat,.int .u8 hi.toNat,.int .u8 lo.toNat]:Array Value).toList:=World.ownsRow_lit _ _ 4 (by simp;omega) (by decide) rfl;rw [show (w3.alloc (.cells #[.int .u8 hi.toNat,.int .u8 lo.toNat] 300)).heap.size=w3.heap.size+1 by simp] at h;exact h
  have HOW:=hide hown;clear hown
  go_wp2_with (first
   | (at_builtin;refine str_append rfl _ _ rfl w.heap.size (.slice (some ⟨w3.heap.size+1,0,none⟩) 4 4) [a,b,hi,lo] rfl (uh HOW) t rfl (by simp;omega) (by simp;omega) ?_;rintro v4 w4 ho4 hb4;replace ho4:w4.ownsRow w.heap.size 5 1 v4 (4+t.size) (vals ([a,b,hi,lo] ++ t.data.toList)):=ho4;obtain ⟨ad,cp,rfl⟩:=own_form ho4;have hcv:=own_conv ho4;clear ho4 HOW))
  go_ret
  have ht4:txt [a,b,hi,lo] ++ t=txt (a :: b :: hi :: lo :: t.data.toList):=(txt_append [a,b,hi,lo] t.data.toList).symm;refine ⟨by rw [ht4];rfl,((hB3.alloc hB3.size _).alloc (by simp;omega) _).trans hb4⟩
theorem specPkBytes (p:Op.Pk) (w:World):Calls prog 126 #[.agg #[.int .i64 p.code,.int .i64 p.id,.string p.data]] w fun e w'=>e=.returned (.string (ptV p))∧Below w.heap.size w w':=by
 cases hk:Op.pok p
 ·rw [ptV_no hk];obtain ⟨x,y,t⟩:=p;have C:=hide fun v=>specPkRight_at x y t v
  rw [hk] at C;dsimp only;clear hk;go_enter func126,ntmps126
  go_wp2_with (first
   | (go_at_call 46;refine (uh C _).mono ?_;rintro e w2 ⟨rfl,hb2⟩))
  go_ret
  exact ⟨rfl,((Below.refl _ _).alloc (Nat.le_refl _) _).trans (hb2.mono (by simp))⟩
 ·rw [ptV_yes hk];obtain ⟨a,b,e1,e2,e3,e4⟩:=pok_get hk;obtain ⟨x,y,t⟩:=p;dsimp only at e1 e2 e3 e4 ⊢;subst e1 e2;have C:=hide fun v=>specPkRight_at (a.toNat:Int) (b.toNat:Int) t v
  rw [hk] at C;have HH:=hi_byte (k:=t.size+4) (by omega);have HL:=lo_byte (t.size+4);rw [show ((t.size+4:Nat):Int)=(t.size:Int)+4 by omega] at HH HL;rw [e4];generalize UInt8.ofNat ((t.size+4) / 256)=hi at *;generalize UInt8.ofNat (t.size+4)=lo at *;have wb:=wB8;have mb:=mB8;have HHH:=hide HH;have HLL:=hide HL;clear e4 hk HH HL;go_enter func126,ntmps126
  go_wp2_with fail
  refine (uh C _).mono ?_;rintro e w2 ⟨rfl,hb2⟩;have hsz:(w.alloc (.cells #[.int .i64 a.toNat,.int .i64 b.toNat,.string t] 35)).heap.size=w.heap.size+1:=by simp
  have hO2:w2.heap[w.heap.size]?=some (.cells #[.int .i64 a.toNat,.int .i64 b.toNat,.string t] 35):=(hb2.block w.heap.size (by rw [hsz];omega)).trans (heap_alloc_new w _);have hlt2:w.heap.size<w2.heap.size:=(ge.1 hO2).1;have hB2:Below w.heap.size w w2:=((Below.refl _ _).alloc (Nat.le_refl _) _).trans (hb2.mono (by rw [hsz];omega));have c0:w2.cell? ⟨w.heap.size,0,none⟩=some (.int .i64 a.toNat):=by rw [cr hO2];rfl
  have c1:w2.cell? ⟨w.heap.size,1,none⟩=some (.int .i64 b.toNat):=by rw [cr hO2];rfl
  have c2:w2.cell? ⟨w.heap.size,2,none⟩=some (.string t):=by rw [cr hO2];rfl
  have hlt2':¬ (w.heap.size=w2.heap.size):=by omega
  obtain ⟨Z,hZ,hcv,hcat⟩:∃ Z,Hid (Z=txt [a,b,hi,lo])∧(convert 22 9 (.slice (some ⟨w2.heap.size,0,none⟩) 4 4)).run prog (w2.alloc (.cells #[.int .u8 a.toNat,.int .u8 b.toNat,.int .u8 (((t.size:Int)+4) / 256),.int .u8 ((t.size:Int)+4)] 5))=.ok (.string Z) (w2.alloc (.cells #[.int .u8 a.toNat,.int .u8 b.toNat,.int .u8 (((t.size:Int)+4) / 256),.int .u8 ((t.size:Int)+4)] 5))∧¬ (9223372036854775807<Z.size+t.size):=by
   refine ⟨_,hide rfl,?_,by rw [txt_size];simp;omega⟩;have hlo:(t.size:Int)+4=(lo.toNat:Int):=by
    have:=uh HLL
    omega
   rw [uh HHH,hlo];have h:(w2.alloc (.cells #[.int .u8 a.toNat,.int .u8 b.toNat,.int .u8 hi.toNat,.int .u8 lo.toNat] 5)).ownsRow w2.heap.size 5 1 (.slice (some ⟨w2.heap.size,0,none⟩) 4 4) 4 (#[.int .u8 a.toNat,.int .u8 b.toNat,.int .u8 hi.toNat,.int .u8 lo.toNat]:Array Value).toList:=World.ownsRow_lit _ _ 4 (Nat.le_refl _) (by decide) rfl;exact own_conv (l:=[a,b,hi,lo]) h
  clear hb2 hO2 C HHH HLL;go_wp2
  go_ret
  refine ⟨by rw [uh hZ];rfl,hB2.alloc hB2.size _⟩
end Go.Proofs.YtahpjlbaagkdoaaGreatDoor
