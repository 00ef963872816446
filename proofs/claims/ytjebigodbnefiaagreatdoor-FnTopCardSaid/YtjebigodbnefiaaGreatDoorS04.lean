/- Split StrApp OptB PairO PktB OptApp Reads Reads2 ReadAs -/
import Derived.Test.YtjebigodbnefiaaGreatDoorS01
set_option maxHeartbeats 4000000
namespace Go.Proofs.YtjebigodbnefiaaGreatDoor
open Go.RowKit Go.Proofs.Tryz
def eV (t:ByteArray) (by_:UInt8) (fr i:Nat):Nat→List ByteArray
 | 0=>[t.extract fr t.size]
 | n+1=>if (t.data.toList[i]?).getD 0 == by_ then t.extract fr i :: eV t by_ (i+1) (i+1) n else eV t by_ fr (i+1) n
def bR (t:ByteArray) (by_:UInt8):List ByteArray:=eV t by_ 0 0 t.size
theorem pI (t:ByteArray):Lib.strCells t=bh t.data.toList:=by
 simp [Lib.strCells,bh,mp]
theorem jc {w:World} {ops:Array Oper} {rest:List Oper} {o:Oper} {a:Act} {Q:Exit→Act→World→Prop} (hgd:o.guard=none) (s x:Operand)
  (ho:o.op=.call { callee:=.builtin .append,args:=#[s,x],argTypes:=#[22,9] })
  (base:Nat) (v:Value) (L:List UInt8) (hs:a.eval s=v) (hown:w.ownsRow base 5 1 v L.length (bh L)) (t:ByteArray) (hx:a.eval x=.string t) (hlen:L.length+t.size≤1000000) (hbase:base≤w.heap.size)
  (h:∀ v' w',w'.ownsRow base 5 1 v' (L.length+t.size) (bh (L ++ t.data.toList))→Below base w w'→wpList prog ops Q rest (a.put o.dst v') w'):wpList prog ops Q (o :: rest) a w:=by
 obtain ⟨ui,hi1,hi2,hi3,hi4⟩:=mn;refine Lib.wpList_append_own_string w hgd s x 22 9 ho base 5 ui underlying22 underlying9 hi1 hi2 hi3 hi4 v L.length (bh L) hs hown t hx (by unfold maxLen;omega) (by omega) hbase ?_;intro v' w' h1 h2 _;refine h v' w' ?_ ((zC _ _).grown h2 hbase (fun q hq=>(World.ownsRow.lt hown q hq).1));rw [fo,← pI];exact h1
theorem je (l m:List UInt8):co (l ++ m)=co l ++ co m:=by
 apply ByteArray.ext
 simp [co]
def rD (F:List Op.Opt):ByteArray:=co (Op.told F)
theorem uB {F:List Op.Opt} (h:Op.right F=false):rD F=⟨#[]⟩:=by unfold rD Op.told;rw [if_neg (by rw [h];decide)];rfl
theorem fI {F:List Op.Opt} (h:Op.right F=true):rD F=co (Op.bytes F):=by unfold rD Op.told;rw [if_pos h]
theorem pJ {o:Op.Opt} (h:Op.ok o=true):∃ k n:UInt8,o.kind=(k.toNat:Int)∧(o.data.size:Int)+2=(n.toNat:Int)∧o.data.size≤20∧Op.one o=[k,n] ++ o.data.data.toList:=by
 have h':=of_decide_eq_true h;refine ⟨UInt8.ofNat o.kind.toNat,UInt8.ofNat (o.data.size+2),?_,?_,h'.2.2,rfl⟩
 ·have:(UInt8.ofNat o.kind.toNat).toNat=o.kind.toNat:=by simp;omega
  omega
 ·have:(UInt8.ofNat (o.data.size+2)).toNat=o.data.size+2:=by simp;omega
  omega
theorem uB8:∀ c:UInt8,IntKind.u8.wrap (c.toNat:Int)=(c.toNat:Int):=fun c=>by rw [IntKind.wrap_u8];have:=c.toNat_lt;omega
theorem nB8:∀ c:UInt8,(c.toNat:Int) % 256=(c.toNat:Int):=fun c=>by have:=c.toNat_lt;omega
theorem jf (F:List Op.Opt) (i:Nat) (hi:i<F.length):Op.bytes (F.take (i+1))=Op.bytes (F.take i) ++ Op.one F[i]:=by
 rw [List.take_succ_eq_append_getElem hi,Op.bytes_snoc]
theorem kF {F:List Op.Opt} (h:Op.right F=true) (i:Nat):(Op.bytes (F.take i)).length≤440:=by
 have h1:=Op.bytes_len (l:=F.take i) fun o ho=>Op.right_all h o (List.mem_of_mem_take ho)
 have h2:=Op.right_len h;rw [List.length_take] at h1;omega
theorem mF (ad:Option Addr) (cp:Nat) (w:World):Calls prog 5 #[.slice ad 0 cp] w fun e w'=>e=.returned (.string ⟨#[]⟩)∧Below w.heap.size w w':=by
 have hcv:∀ w1:World,(convert 22 9 (.slice none 0 0)).run prog w1=.ok (.string ⟨#[]⟩) w1:=fun w1=>eK (l:=[]) (base:=0) ⟨rfl,Or.inl ⟨rfl,rfl⟩⟩
 go_enter func5,ntmps5
 go_wp2_with fail
 refine (iW ad cp w).mono ?_;rintro e w1 ⟨rfl,hb1⟩;go_wp2_with fail
 go_loopw [3,11] (fun x y wr=>x=.slice none 0 0∧y=.int .i64 0∧wr=w1) (fun _ _ _=>0)
 case atStart=>exact ⟨rfl,rfl,rfl⟩
 case round =>
  obtain ⟨rfl,rfl,rfl⟩:=hrel;go_wp2
  go_ret
  exact ⟨rfl,hb1⟩
theorem jg {wr:World} {cs:Array Value} {ops:Array Oper} {rest:List Oper} {o:Oper} {a:Act} {Q:Exit→Act→World→Prop} (hgd:o.guard=none) (s x:Operand)
  (ho:o.op=.call { callee:=.builtin .append,args:=#[s,x],argTypes:=#[22,22] })
  (base:Nat) (v:Value) (L news:List UInt8) (hs:a.eval s=v) (hown:wr.ownsRow base 5 1 v L.length (bh L))
  (m:Nat) (hm:news.length=m) (hx:a.eval x=.slice (some ⟨wr.heap.size,0,none⟩) m m) (hcs:cs.toList=bh news) (hlen:L.length+news.length≤10000000) (hbase:base≤wr.heap.size)
  (h:∀ v' w',w'.ownsRow base 5 1 v' (L ++ news).length (bh (L ++ news))→Below base wr w'→(∀ k,k<wr.heap.size→v.ownBlock≠some k→w'.heap[k]?=wr.heap[k]?)→wr.heap.size≤w'.heap.size→wpList prog ops Q rest (a.put o.dst v') w'):wpList prog ops Q (o :: rest) a (wr.alloc (.cells cs 5)):=by
 obtain ⟨ui,hi1,hi2,hi3,hi4⟩:=mn;subst hm;refine wpList_append_own _ hgd s x 22 ho base 5 ui (.int .u8 0) 1 1 underlying22 hi1 hi2 hi3 hi4 rfl (by decide) v L.length (bh L) hs (hown.alloc _) ⟨wr.heap.size,0,none⟩ news.length news.length (bh news) hx (by rw [oX,Nat.mul_one]) ?_ ?_ ?_ ?_ ?_ ?_
 ·intro i u hu;rw [Addr.add_lit,Nat.zero_add,World.cell?_alloc_at _ _ _ _ rfl,← hu,← hcs,Array.getElem?_toList]
 ·intro u hu;simp only [bh,mp,List.map_map,List.mem_map] at hu;obtain ⟨x,_,rfl⟩:=hu;rfl
 ·unfold maxLen;omega
 ·omega
 ·simp;omega
 ·intro v' w2 hown2 hg2 _;have hsz:=hg2.size;refine h v' w2 ?_ ?_ (fun k hk hne=>(hg2.block k (by simp;omega) (Ne.symm hne)).trans (zG _ _ _ hk)) (by simp at hsz;omega)
  ·rw [fo,List.length_append];exact hown2
  ·exact ((zC _ _).alloc hbase _).grown hg2 (by simp;omega) (fun q hq=>by exact (World.ownsRow.lt hown q hq).1)
theorem gz {w:World} {ops:Array Oper} {rest:List Oper} {o:Oper} {a:Act} {Q:Exit→Act→World→Prop} (hgd:o.guard=none) (s x:Operand)
  (ho:o.op=.call { callee:=.builtin .append,args:=#[s,x],argTypes:=#[22,9] })
  (base:Nat) (v:Value) (L:List UInt8) (n:Nat) (hn:L.length=n) (hs:a.eval s=v) (hown:w.ownsRow base 5 1 v n (bh L)) (t:ByteArray) (hx:a.eval x=.string t) (hlen:n+t.size≤1000000) (hbase:base≤w.heap.size)
  (h:∀ v' w',w'.ownsRow base 5 1 v' (n+t.size) (bh (L ++ t.data.toList))→Below base w w'→wpList prog ops Q rest (a.put o.dst v') w'):wpList prog ops Q (o :: rest) a w:=by
 subst hn;exact jc hgd s x ho base v L hs hown t hx hlen hbase h
theorem mG (g cp:Nat) (F:List Op.Opt) (cur:Array Value) (w:World) (hm:F.length≤maxLen) (h1:w.heap[g]?=some (.cells cur 27)) (a1:∀ j,j<F.length*2→cur[j]?=(aj F)[j]?) :
  Calls prog 5 #[.slice (some ⟨g,0,none⟩) F.length cp] w fun e w'=>e=.returned (.string (rD F))∧Below w.heap.size w w':=by
 have C:=aa (iX g cp F cur w hm h1 a1);have hl1:g<w.heap.size:=(ge.1 h1).1;obtain ⟨n,hn⟩:∃ n,F.length=n:=⟨_,rfl⟩;cases hr:Op.right F
 ·rw [hr] at C;rw [uB hr,hn];rw [hn] at C;clear hr a1;go_enter func5,ntmps5
  go_wp2_with fail
  refine (uh C).mono ?_;rintro e w1 ⟨rfl,hb1⟩;go_wp2
  go_ret
  exact ⟨rfl,hb1⟩
 ·rw [hr] at C;rw [fI hr,hn];rw [hn] at C;have hn20:=Op.right_len hr;have HA:Hid (∀ i (hi:i<n),cur[i*2]?=some (.int .i64 (F[i]'(by omega)).kind)∧cur[i*2+1]?=some (.string (F[i]'(by omega)).data)):=by
   refine aa fun i hi=>?_
   have q:=bW F i (F[i]'(by omega)) (List.getElem?_eq_getElem (by omega));exact ⟨(a1 _ (by omega)).trans q.1,(a1 _ (by omega)).trans q.2⟩
  have HK:Hid (∀ i (hi:i<n),Op.ok (F[i]'(by omega))=true):=aa fun i hi=>Op.right_all hr _ (List.getElem_mem _)
  have HT:Hid (∀ i (hi:i<n),Op.bytes (F.take (i+1))=Op.bytes (F.take i) ++ Op.one (F[i]'(by omega))):=aa fun i hi=>jf F i (by omega)
  have HLB:Hid (∀ i,(Op.bytes (F.take i)).length≤440):=aa fun i=>kF hr i
  have HEND:Hid (F.take n=F):=aa (List.take_of_length_le (by omega));clear a1 hm hr;go_enter func5,ntmps5
  go_wp2_with fail
  refine (uh C).mono ?_;rintro e w1 ⟨rfl,hb1⟩;clear C;go_wp2_with fail
  go_loopw [3,11] (fun x y wr=>∃ (i:Nat),i≤n∧y=.int .i64 i∧(∃ a c,x=.slice a (Op.bytes (F.take i)).length c)∧wr.ownsRow w.heap.size 5 1 x (Op.bytes (F.take i)).length (bh (Op.bytes (F.take i)))∧Below w.heap.size w wr) (fun _ y _=>n - (intOf y).toNat)
  case atStart=>exact ⟨0,Nat.zero_le _,rfl,⟨_,_,rfl⟩,⟨rfl,Or.inl ⟨rfl,rfl⟩⟩,hb1⟩
  case round =>
   obtain ⟨i,hi,rfl,⟨xa,xc,rfl⟩,hown,hb⟩:=hrel;have hbs:=hb.size;by_cases hlt:i<n
   ·have d1:(i:Int)<(n:Int):=by omega
    obtain ⟨q1,q2⟩:=uh HA i hlt;have e1:=(hb.block g hl1).trans h1;have hbt:=uh HT i hlt;have hlb:=uh HLB i;obtain ⟨k,m,hk,hm2,hd20,hone⟩:=pJ (uh HK i hlt);generalize hO:F[i]'(by omega)=op at *;obtain ⟨kd,dt⟩:=op;dsimp only at q1 q2 hk hm2 hd20 hone;subst hk;have k0:wr.cell? ⟨g,i*2,none⟩=some (.int .i64 k.toNat):=by rw [cr e1];exact q1
    have k1:wr.cell? ⟨g,i*2+1,none⟩=some (.string dt):=by rw [cr e1];exact q2
    rw [hone] at hbt;have HBT:=aa hbt;generalize Op.bytes (F.take i)=L at *;have HM:Hid (2+(dt.size:Int)=(m.toNat:Int)):=aa (by omega);have HOW:=aa hown;have wb:=uB8;have mb:=nB8;have hgr:g<wr.heap.size:=Nat.lt_of_lt_of_le hl1 hbs;have hgr':¬ (g=wr.heap.size):=by omega
    have HNE:Hid ((Value.slice xa L.length xc).ownBlock≠some wr.heap.size):=aa fun e=>by have:=World.ownsRow.lt (uh HOW) _ e;omega
    have hmlt:=m.toNat_lt;clear q1 q2 e1 hbt hone hO hown HA HK HT HLB h1;go_upto_region 7 with fail
    refine aI (fun q=>q.heap[wr.heap.size]?=some (.cells #[.int .i64 k.toNat,.string dt] 27)∧q.ownsRow w.heap.size 5 1 (.slice xa L.length xc) L.length (bh L)∧Below w.heap.size w q∧wr.heap.size<q.heap.size)
     ⟨zF wr _,(uh HOW).alloc _,hb.alloc hbs _,by simp⟩ ?_
    rintro q ⟨hop,hoq,hbq,hlq⟩;have c0:q.cell? ⟨wr.heap.size,0,none⟩=some (.int .i64 k.toNat):=by rw [cr hop];rfl
    have c1:q.cell? ⟨wr.heap.size,1,none⟩=some (.string dt):=by rw [cr hop];rfl
    have HOQ:=aa hoq;have HOP:=aa hop;have hbqs:=hbq.size;clear hop hoq k0 k1 HOW hgr hgr'
    go_wp2_with (first
     | (at_builtin;refine jg rfl _ _ rfl w.heap.size (.slice xa L.length xc) L [k,m] rfl (uh HOQ) 2 rfl rfl (by show [_,_]=bh [k,m];rw [kO,← uh HM]) (by simp;omega) hbqs ?_;rintro v2 w2 ho2 hb2 hk2 hs2;rw [show (L ++ [k,m]).length=L.length+2 by simp] at ho2;obtain ⟨a2,c2,rfl⟩:=af ho2;have hop2:=(hk2 wr.heap.size hlq (uh HNE)).trans (uh HOP);have e1:w2.cell? ⟨wr.heap.size,1,none⟩=some (.string dt):=by { rw [cr hop2];rfl };have hB2:=hbq.trans hb2;have hB2s:=hB2.size;have HO2:=aa ho2;clear ho2 hop2 hk2 hb2 HOQ HOP HNE HM)
     | (at_builtin;refine gz rfl _ _ rfl w.heap.size _ (L ++ [k,m]) (L.length+2) (by simp) rfl (uh HO2) dt rfl (by omega) hB2s ?_;rintro v3 w3 ho3 hb3;obtain ⟨a3,c3,rfl⟩:=af ho3;have HO3:=aa ho3;clear ho3 HO2))
    go_roundw
    case rel =>
     have hdl:dt.data.toList.length=dt.size:=by rw [Array.length_toList];rfl
     have hlen:L.length+2+dt.size=(Op.bytes (F.take (i+1))).length:=by rw [uh HBT,List.length_append,List.length_append,hdl];simp;omega
     have hbys:L ++ [k,m] ++ dt.data.toList=Op.bytes (F.take (i+1)):=by rw [uh HBT,List.append_assoc]
     refine ⟨i+1,by omega,by go_num,⟨a3,c3,by rw [← hlen]⟩,?_,hB2.trans hb3⟩;have h:=uh HO3;rw [hlen,hbys] at h;rw [hlen];exact h
    case measure=>simp [intOf];omega
   ·have e:i=n:=by omega
    subst e;have d1:¬ ((i:Int)<(i:Int)):=by omega
    rw [uh HEND] at hown ⊢;have hcv:=eK hown;go_wp2
    go_ret
    exact ⟨rfl,hb⟩
theorem cP (v:Value) (F:List Op.Opt) (w:World) (hm:F.length≤maxLen) (h:HoldsO w v F) :
  Calls prog 5 #[v] w fun e w'=>e=.returned (.string (rD F))∧Below w.heap.size w w':=by
 rcases h with ⟨ad,cp,rfl,rfl⟩ | ⟨g,cp,cur,rfl,h2,_,h4⟩
 ·exact mF ad cp w
 ·exact mG g cp F cur w hm h2 h4
theorem nC {k:Nat} (hk:k<65536):(k:Int) / 256=((UInt8.ofNat (k / 256)).toNat:Int):=by
 have:(UInt8.ofNat (k / 256)).toNat=k / 256:=by simp;omega
 omega
theorem xM (k:Nat):(k:Int) % 256=((UInt8.ofNat k).toNat:Int):=by
 have:(UInt8.ofNat k).toNat=k % 256:=by simp
 omega
theorem uC (k:Nat) (hk:k<65536) (w:World) :
  Calls prog 15 #[.int .i64 k] w fun e w'=>e=.returned (.agg #[.int .u8 (UInt8.ofNat (k / 256)).toNat,  .int .u8 (UInt8.ofNat k).toNat])∧w'=w.alloc (.cells #[.int .u8 (UInt8.ofNat (k / 256)).toNat,.int .u8 (UInt8.ofNat k).toNat] 47):=by
 rw [← nC hk,← xM k];go_enter func15,ntmps15
 go_wp2
 refine bodyPost_ret (v:=.agg #[.int .u8 ((k:Int) / 256),.int .u8 ((k:Int) % 256)]) (by simp [results,results15,go_sem]) rfl ⟨rfl,rfl⟩
theorem lm (p:Op.Pk) (P:Prop) (h1:¬ (0≤p.code∧p.code≤255)→Op.pok p=false→P) (h2:0≤p.code∧p.code≤255→¬ (0≤p.id∧p.id≤255)→Op.pok p=false→P)
  (h3:0≤p.code∧p.code≤255→0≤p.id∧p.id≤255→250<p.data.size→Op.pok p=false→P) (h4:0≤p.code∧p.code≤255→0≤p.id∧p.id≤255→p.data.size≤250→Op.pok p=true→P):P:=by
 by_cases a:0≤p.code∧p.code≤255
 ·by_cases b:0≤p.id∧p.id≤255
  ·by_cases c:p.data.size≤250
   ·exact h4 a b c (decide_eq_true (by omega))
   ·exact h3 a b (by omega) (decide_eq_false (by omega))
  ·exact h2 a b (decide_eq_false (by omega))
 ·exact h1 a (decide_eq_false (by omega))
theorem fW {x:Int} (h:0≤x∧x≤255):(decide (0≤x) && decide (x≤255))=true:=by simp;omega
theorem ki {x:Int} (h:¬ (0≤x∧x≤255)):(decide (0≤x) && decide (x≤255))=false:=by simp;omega
theorem dZ (x y:Int) (t:ByteArray) (w:World):Calls prog 14 #[.agg #[.int .i64 x,.int .i64 y,.string t]] w fun e w'=>e=.returned (.bool (Op.pok ⟨x,y,t⟩))∧Below w.heap.size w w':=by
 have C1:=aa fun v=>ra x v
 have C2:=aa fun v=>ra y v
 obtain ⟨R,hR⟩:∃ R,Op.pok ⟨x,y,t⟩=R:=⟨_,rfl⟩;rw [hR];refine lm ⟨x,y,t⟩ _ (fun a r=>?_) (fun a b r=>?_) (fun a b c r=>?_) (fun a b c r=>?_)
 all_goals
  dsimp only at a;rw [hR] at r;subst r;clear hR
 ·rw [ki a] at C1;clear a C2;go_enter func14,ntmps14
  go_wp2_with (first
   | (go_at_call 25;refine (uh C1 _).mono ?_;rintro e w2 ⟨rfl,rfl⟩))
  go_ret
  exact ⟨rfl,(zC _ _).alloc (zD _) _⟩
 ·dsimp only at b;rw [fW a] at C1;rw [ki b] at C2;clear a b;go_enter func14,ntmps14
  go_wp2_with fail
  refine (uh C1 _).mono ?_;rintro e w2 ⟨rfl,rfl⟩;go_wp2_with fail
  refine (uh C2 _).mono ?_;rintro e w2 ⟨rfl,rfl⟩;go_wp2
  go_ret
  exact ⟨rfl,(zC _ _).alloc (zD _) _⟩
 ·dsimp only at b c;rw [fW a] at C1;rw [fW b] at C2;have f1:decide ((t.size:Int)≤250)=false:=decide_eq_false (by omega);clear a b c;go_enter func14,ntmps14
  go_wp2_with fail
  refine (uh C1 _).mono ?_;rintro e w2 ⟨rfl,rfl⟩;go_wp2_with fail
  refine (uh C2 _).mono ?_;rintro e w2 ⟨rfl,rfl⟩;go_wp2
  go_ret
  exact ⟨rfl,(zC _ _).alloc (zD _) _⟩
 ·dsimp only at b c;rw [fW a] at C1;rw [fW b] at C2;have f1:decide ((t.size:Int)≤250)=true:=decide_eq_true (by omega);clear a b c;go_enter func14,ntmps14
  go_wp2_with fail
  refine (uh C1 _).mono ?_;rintro e w2 ⟨rfl,rfl⟩;go_wp2_with fail
  refine (uh C2 _).mono ?_;rintro e w2 ⟨rfl,rfl⟩;go_wp2
  go_ret
  exact ⟨rfl,(zC _ _).alloc (zD _) _⟩
theorem rb {x:Int} (h:0≤x∧x≤255):∃ c:UInt8,x=(c.toNat:Int)∧UInt8.ofNat x.toNat=c:=by
 refine ⟨UInt8.ofNat x.toNat,?_,rfl⟩;have:(UInt8.ofNat x.toNat).toNat=x.toNat:=by simp;omega
 omega
theorem nF {p:Op.Pk} (h:Op.pok p=true):∃ a b:UInt8,p.code=(a.toNat:Int)∧p.id=(b.toNat:Int)∧p.data.size≤250∧Op.phead p=[a,b,UInt8.ofNat ((p.data.size+4) / 256),UInt8.ofNat (p.data.size+4)]:=by
 have h':=of_decide_eq_true h;obtain ⟨a,ha,ha2⟩:=rb (x:=p.code) ⟨h'.1,h'.2.1⟩;obtain ⟨b,hb,hb2⟩:=rb (x:=p.id) ⟨h'.2.2.1,h'.2.2.2.1⟩;refine ⟨a,b,ha,hb,h'.2.2.2.2,?_⟩;unfold Op.phead;rw [ha2,hb2]
theorem wB8:∀ c:UInt8,IntKind.u8.wrap (c.toNat:Int)=(c.toNat:Int):=fun c=>by rw [IntKind.wrap_u8];have:=c.toNat_lt;omega
theorem mB8:∀ c:UInt8,(c.toNat:Int) % 256=(c.toNat:Int):=fun c=>by have:=c.toNat_lt;omega
def rE (p:Op.Pk):ByteArray:=co (Op.ptold p)
theorem mH {p:Op.Pk} (h:Op.pok p=false):rE p=⟨#[]⟩:=by unfold rE Op.ptold;rw [if_neg (by rw [h];decide)];rfl
theorem kj {p:Op.Pk} (h:Op.pok p=true):rE p=co (Op.phead p) ++ p.data:=by
 unfold rE Op.ptold;rw [if_pos h,je];rfl
theorem lq (p:Op.Pk) (w:World):Calls prog 7 #[.agg #[.int .i64 p.code,.int .i64 p.id,.string p.data]] w fun e w'=>e=.returned (.string (rE p))∧Below w.heap.size w w':=by
 cases hk:Op.pok p
 ·rw [mH hk];obtain ⟨x,y,t⟩:=p;have C:=aa fun v=>dZ x y t v
  rw [hk] at C;dsimp only;clear hk;go_enter func7,ntmps7
  go_wp2_with (first
   | (go_at_call 14;refine (uh C _).mono ?_;rintro e w2 ⟨rfl,hb2⟩))
  go_ret
  exact ⟨rfl,((zC _ _).alloc (zD _) _).trans (hb2.mono (by simp))⟩
 ·rw [kj hk];obtain ⟨a,b,e1,e2,e3,e4⟩:=nF hk;obtain ⟨x,y,t⟩:=p;dsimp only at e1 e2 e3 e4 ⊢;subst e1 e2;have C:=aa fun v=>dZ (a.toNat:Int) (b.toNat:Int) t v
  rw [hk] at C;have C2:=aa fun v=>uC (4+t.size) (by omega) v
  rw [show ((4+t.size:Nat):Int)=4+(t.size:Int) by omega,show 4+t.size=t.size+4 by omega] at C2;rw [e4];generalize UInt8.ofNat ((t.size+4) / 256)=hi at *;generalize UInt8.ofNat (t.size+4)=lo at *;have wb:=wB8;have mb:=mB8;clear e4 hk;go_enter func7,ntmps7
  go_wp2_with fail
  refine (uh C _).mono ?_;rintro e w2 ⟨rfl,hb2⟩;have hsz:(w.alloc (.cells #[.int .i64 a.toNat,.int .i64 b.toNat,.string t] 32)).heap.size=w.heap.size+1:=by simp
  have hO2:w2.heap[w.heap.size]?=some (.cells #[.int .i64 a.toNat,.int .i64 b.toNat,.string t] 32):=(hb2.block w.heap.size (by rw [hsz];omega)).trans (zF w _);have hlt2:w.heap.size<w2.heap.size:=(ge.1 hO2).1;have hB2:Below w.heap.size w w2:=((zC _ _).alloc (zD _) _).trans (hb2.mono (by rw [hsz];omega));have c0:w2.cell? ⟨w.heap.size,0,none⟩=some (.int .i64 a.toNat):=by rw [cr hO2];rfl
  have c1:w2.cell? ⟨w.heap.size,1,none⟩=some (.int .i64 b.toNat):=by rw [cr hO2];rfl
  have c2:w2.cell? ⟨w.heap.size,2,none⟩=some (.string t):=by rw [cr hO2];rfl
  clear hb2 hO2 C;go_wp2_with fail
  refine (uh C2 _).mono ?_;rintro e w3 ⟨rfl,hw3⟩;have hb3:Below w2.heap.size w2 w3:=by rw [hw3];exact (zC _ _).alloc (zD _) _
  have hB3:=hB2.trans (hb3.mono hB2.size);have k0:=(hb3.cell (p:=⟨w.heap.size,0,none⟩) hlt2).trans c0;have k1:=(hb3.cell (p:=⟨w.heap.size,1,none⟩) hlt2).trans c1;have k2:=(hb3.cell (p:=⟨w.heap.size,2,none⟩) hlt2).trans c2;have hs3:=hb3.size;have hl3:w.heap.size<w3.heap.size:=by omega
  have hl3':¬ (w.heap.size=w3.heap.size):=by omega
  clear hw3 hb3 c0 c1 c2 C2;have hown:((w3.alloc (.cells #[.int .u8 hi.toNat,.int .u8 lo.toNat] 47)).alloc (.cells #[.int .u8 a.toNat,.int .u8 b.toNat,.int .u8 hi.toNat,.int .u8 lo.toNat] 5)).ownsRow w.heap.size 5 1 (.slice (some ⟨w3.heap.size+1,0,none⟩) 4 4) [a,b,hi,lo].length (bh [a,b,hi,lo]):=by
   have h:((w3.alloc (.cells #[.int .u8 hi.toNat,.int .u8 lo.toNat] 47)).alloc (.cells #[.int .u8 a.toNat,.int .u8 b.toNat,.int .u8 hi.toNat,.int .u8 lo.toNat] 5)).ownsRow w.heap.size 5 1 (.slice (some ⟨(w3.alloc (.cells #[.int .u8 hi.toNat,.int .u8 lo.toNat] 47)).heap.size,0,none⟩) 4 4) 4 (#[.int .u8 a.toNat,.int .u8 b.toNat,.int .u8 hi.toNat,.int .u8 lo.toNat]:Array Value).toList:=World.ownsRow_lit _ _ 4 (by simp;omega) (by decide) rfl;rw [show (w3.alloc (.cells #[.int .u8 hi.toNat,.int .u8 lo.toNat] 47)).heap.size=w3.heap.size+1 by simp] at h;exact h
  have HOW:=aa hown;clear hown
  go_wp2_with (first
   | (at_builtin;refine jc rfl _ _ rfl w.heap.size (.slice (some ⟨w3.heap.size+1,0,none⟩) 4 4) [a,b,hi,lo] rfl (uh HOW) t rfl (by simp;omega) (by simp;omega) ?_;rintro v4 w4 ho4 hb4;replace ho4:w4.ownsRow w.heap.size 5 1 v4 (4+t.size) (bh ([a,b,hi,lo] ++ t.data.toList)):=ho4;obtain ⟨ad,cp,rfl⟩:=af ho4;have hcv:=eK ho4;clear ho4 HOW))
  go_ret
  have ht4:co [a,b,hi,lo] ++ t=co (a :: b :: hi :: lo :: t.data.toList):=(je [a,b,hi,lo] t.data.toList).symm;refine ⟨by rw [ht4];rfl,((hB3.alloc hB3.size _).alloc (by simp;omega) _).trans hb4⟩
theorem cD {wr:World} {ops:Array Oper} {rest:List Oper} {o:Oper} {a:Act} {Q:Exit→Act→World→Prop} (hgd:o.guard=none) (s x:Operand)
  (ho:o.op=.call { callee:=.builtin .append,args:=#[s,x],argTypes:=#[28,28] })
  (base:Nat) (v:Value) (F:List Op.Opt) (n:Nat) (hn:F.length=n) (hs:a.eval s=v) (hown:wr.ownsRow base 27 2 v n (aj F)) (kd:Int) (dt:ByteArray) (hx:a.eval x=.slice (some ⟨wr.heap.size,0,none⟩) 1 1) (hlen:n≤1000) (hbase:base≤wr.heap.size)
  (h:∀ v' w',w'.ownsRow base 27 2 v' (n+1) (aj (F ++ [⟨kd,dt⟩]))→(wr.alloc (.cells #[.int .i64 kd,.string dt] 27)).grownBy w' v.ownBlock→wpList prog ops Q rest (a.put o.dst v') w'):wpList prog ops Q (o :: rest) a (wr.alloc (.cells #[.int .i64 kd,.string dt] 27)):=by
 obtain ⟨i0,hi0,hz0,hz1,hz2⟩:=kW;refine wpList_append_own _ hgd s x 28 ho base 27 i0 _ 2 24 underlying28 hi0 hz0 hz1 hz2 rfl (by decide) v n (aj F) hs (hown.alloc _) ⟨wr.heap.size,0,none⟩ 1 1 [.int .i64 kd,.string dt] hx rfl ?_ ?_ ?_ ?_ ?_ ?_
 ·intro i u hu;rw [Addr.add_lit,Nat.zero_add,World.cell?_alloc_at _ _ _ _ rfl,← hu];simp
 ·intro u hu;simp only [List.mem_cons,List.not_mem_nil,or_false] at hu;rcases hu with rfl | rfl<;>rfl
 ·unfold maxLen;omega
 ·omega
 ·simp;omega
 ·intro v' w2 hown2 hg2 _;refine h v' w2 ?_ hg2;rw [bV];exact hown2
structure Off (N R:Nat) (w w':World):Prop where
 os:w'.os=w.os
 tape:w'.tape=w.tape
 output:w'.output=w.output
 size:w.heap.size≤w'.heap.size
 block:∀ k,k<N→k≠R→w'.heap[k]?=w.heap[k]?
theorem Off.refl (N R:Nat) (w:World):Off N R w w:=⟨rfl,rfl,rfl,zD _,fun _ _ _=>rfl⟩
theorem Off.trans {N R:Nat} {a b c:World} (h:Off N R a b) (k:Off N R b c):Off N R a c :=
 ⟨k.os.trans h.os,k.tape.trans h.tape,k.output.trans h.output,zE h.size k.size,fun i hi hn=>(k.block i hi hn).trans (h.block i hi hn)⟩
theorem Nr.off {N R:Nat} {w w':World} (h:Nr R w w') (hN:N≤w.heap.size):Off N R w w':=⟨h.os,h.tape,h.output,h.size,fun k hk hn=>h.block k (by omega) hn⟩
theorem Off.of_below {N R:Nat} {w w':World} (h:Below N w w'):Off N R w w':=⟨h.os,h.tape,h.output,h.size,fun k hk _=>h.block k hk⟩
theorem Off.below {N R n:Nat} {w w':World} (h:Off N R w w') (h1:n≤N) (h2:n≤R):Below n w w':=⟨h.os,h.tape,h.output,h.size,fun k hk=>h.block k (by omega) (by omega)⟩
theorem Off.setR {N R:Nat} {a w:World} (h:Off N R a w) (o:Nat) (v:Value):Off N R a (w.setCell ⟨R,o,none⟩ v):=by
 have hb:=(zC 0 w).setCell (p:=⟨R,o,none⟩) (Nat.zero_le _) v;exact ⟨hb.os.trans h.os,hb.tape.trans h.tape,hb.output.trans h.output,zE h.size hb.size,fun k hk hn=>(Below.heap_setCell w ⟨R,o,none⟩ v k hn).trans (h.block k hk hn)⟩
theorem ic {w w':World} {R base:Nat} {e:TypeId} {size:Nat} {v:Value} {n:Nat} {xs:List Value} (h:w.ownsRow base e size v n xs) (hn:Nr R w w') (hb:R<base):w'.ownsRow base e size v n xs :=
 aY h fun g h1 h2=>hn.block g h2 (by omega)
theorem sM:∃ i,prog.info? 2=some i∧i.zero=some (.int .i64 0)∧i.size=1∧i.bytes=8:=by
 have h:(prog.info? 2).map (fun i=>(i.zero,i.size,i.bytes))=some (some (.int .i64 0),1,8):=by kernel_rfl
 obtain ⟨i,hi,hzz⟩:=Option.map_eq_some_iff.1 h;simp only [Prod.mk.injEq] at hzz;exact ⟨i,hi,hzz.1,hzz.2.1,hzz.2.2⟩
theorem jt {wr:World} {ops:Array Oper} {rest:List Oper} {o:Oper} {a:Act} {Q:Exit→Act→World→Prop} (hgd:o.guard=none) (s x:Operand)
  (ho:o.op=.call { callee:=.builtin .append,args:=#[s,x],argTypes:=#[251,251] })
  (base:Nat) (v:Value) (n:Nat) (L:List Value) (hs:a.eval s=v) (hown:wr.ownsRow base 2 1 v n L) (c:Int) (hx:a.eval x=.slice (some ⟨wr.heap.size,0,none⟩) 1 1) (hlen:n≤1000) (hbase:base≤wr.heap.size)
  (h:∀ v' w',w'.ownsRow base 2 1 v' (n+1) (L ++ [.int .i64 c])→Below base wr w'→wpList prog ops Q rest (a.put o.dst v') w'):wpList prog ops Q (o :: rest) a (wr.alloc (.cells #[.int .i64 c] 2)):=by
 obtain ⟨ui,hi1,hi2,hi3,hi4⟩:=sM;refine wpList_append_own _ hgd s x 251 ho base 2 ui (.int .i64 0) 1 8 underlying251 hi1 hi2 hi3 hi4 rfl (by decide) v n L hs (hown.alloc _) ⟨wr.heap.size,0,none⟩ 1 1 [.int .i64 c] hx rfl ?_ ?_ ?_ ?_ ?_ ?_
 ·intro i u hu;rw [Addr.add_lit,Nat.zero_add,World.cell?_alloc_at _ _ _ _ rfl,← hu];simp
 ·intro u hu;simp only [List.mem_singleton] at hu;subst hu;rfl
 ·unfold maxLen;omega
 ·omega
 ·simp;omega
 ·intro v' w2 hown2 hg2 _;exact h v' w2 hown2 (((zC _ _).alloc hbase _).grown hg2 (by simp;omega) (fun q hq=>by exact (World.ownsRow.lt hown q hq).1))
def Rdg (w:World) (R N B:Nat) (p:Value) (ah ms lk:Int) (l:List UInt8) (ss:List Value) (ct:Int) (t:ByteArray):Prop :=
 ∃ v s,w.heap[R]?=some (.cells #[p,.int .i64 ah,.int .i64 ms,.int .i64 lk,v,s,.int .i64 ct,.string t] 253)∧Rest w B v l∧w.ownsRow N 2 1 s ss.length ss
theorem gn (R N B:Nat) (p:Value) (ah ms lk:Int) (l:List UInt8) (ss:List Value) (ct:Int) (t:ByteArray) (w:World) (hRN:R<N) (hBN:B<N) (hN:N≤w.heap.size) (hne:B≠R) (hss:ss.length≤4)
  (h:Rdg w R N B p ah ms lk l ss ct t) :
  Calls prog 204 #[.pointer (some ⟨R,0,none⟩)] w fun e w'=>Off N R w w'∧((l=[]∧e=.returned (cS lk))∨∃ c r,l=c :: r∧e=.returned .nilIface∧Rdg w' R N B p ah ms lk r (ss ++ [.int .i64 c.toNat]) ct t):=by
 obtain ⟨v,s,hR,hv,ho⟩:=h;obtain ⟨sa,sc,hsf⟩:=af ho;subst hsf;rcases l with _ | ⟨c,r⟩
 ·have C:=aa (jK R B 1 [] v lk p (.int .i64 ah) (.int .i64 ms) (.slice sa ss.length sc) (.int .i64 ct) (.string t) w (by simp) hv hR);have HR:=aa hR;have HO:=aa ho;clear hR ho hv;go_enter func204,ntmps204
  go_wp2_with fail
  refine (uh C).mono ?_;rintro e w1 ⟨rfl,k,hk⟩;have hn1:Nr R w w1:=by rw [hk];exact (Nr.refl _ _).drewN k
  have hR1:=(show w1.heap[R]?=w.heap[R]? by rw [hk];rfl).trans (uh HR);have hN1:=zE hN hn1.size;obtain ⟨c0,c1,c2,c3,c4,c5,c6,c7,cf⟩:=j_ hR1;have HR1:=aa hR1;have HO1:=aa (ic (uh HO) hn1 hRN);clear C hk cf hR1
  go_wp2_with (first
   | (at_builtin;refine jt rfl _ _ rfl N (.slice sa ss.length sc) ss.length ss rfl (uh HO1) 0 rfl (by omega) hN1 ?_;rintro v2 w2 ho2 hb2;obtain ⟨va,vc,hv2⟩:=af ho2;subst hv2;have hR2:=(hb2.block R hRN).trans (uh HR1);obtain ⟨e0,e1,e2,e3,e4,e5,e6,e7,ef⟩:=j_ hR2;have hf2:=ef 5;clear ef hR2 ho2))
  go_ret
  exact ⟨((hn1.off hN).trans (Off.of_below hb2)).setR 5 _,Or.inl ⟨trivial,rfl⟩⟩
 ·have C:=aa (pn R B 1 (c :: r) v p (.int .i64 ah) (.int .i64 ms) (.int .i64 lk) (.slice sa ss.length sc) (.int .i64 ct) (.string t) w (by decide) (by simp) (by omega) hne hv hR);rw [show ax (List.take 1 (c :: r))=c.toNat by simp [ax],show List.drop 1 (c :: r)=r from rfl] at C;have HO:=aa ho;clear hR ho hv;go_enter func204,ntmps204
  go_wp2_with fail
  refine (uh C).mono ?_;rintro e w1 ⟨rfl,v1,hR1,hv1,hn1⟩;have hN1:=zE hN hn1.size;obtain ⟨c0,c1,c2,c3,c4,c5,c6,c7,cf⟩:=j_ hR1;have HR1:=aa hR1;have HV1:=aa hv1;have HO1:=aa (ic (uh HO) hn1 hRN);clear C cf hR1 hv1
  go_wp2_with (first
   | (at_builtin;refine jt rfl _ _ rfl N (.slice sa ss.length sc) ss.length ss rfl (uh HO1) c.toNat rfl (by omega) hN1 ?_;rintro v2 w2 ho2 hb2;obtain ⟨va,vc,hv2⟩:=af ho2;subst hv2;have hR2:=(hb2.block R hRN).trans (uh HR1);obtain ⟨e0,e1,e2,e3,e4,e5,e6,e7,ef⟩:=j_ hR2;have hf2:=ef 5;have HO2:=aa ho2;have HR2:=aa hR2;clear ef hR2 ho2))
  go_ret
  refine ⟨((hn1.off hN).trans (Off.of_below hb2)).setR 5 _,Or.inr ⟨c,r,rfl,rfl,v1,.slice va (ss.length+1) vc,?_,?_,?_⟩⟩
  ·rw [zH _ _ 5 _ _ _ (uh HR2)];rfl
  ·exact (uh HV1).same ((Below.heap_setCell w2 ⟨R,5,none⟩ _ B hne).trans (hb2.block B hBN))
  ·rw [List.length_append];exact aY (uh HO2) fun g hg _=>Below.heap_setCell w2 ⟨R,5,none⟩ _ g (by show g≠R;omega)
def oL (ah ms:Int) (n:Nat) (l:List UInt8):Bool:=decide ((n:Int) - ah<0∨ms<(n:Int) - ah∨(l.length:Int)<(n:Int) - ah)
theorem Rdg.nr {w w':World} {R N B:Nat} {p:Value} {ah ms lk:Int} {l:List UInt8} {ss:List Value} {ct:Int} {t:ByteArray} (h:Rdg w R N B p ah ms lk l ss ct t) (h1:w'.heap[R]?=w.heap[R]?) (h2:Nr R w w') (hRN:R<N) (hB:B<w.heap.size) (hne:B≠R):Rdg w' R N B p ah ms lk l ss ct t:=by
 obtain ⟨v,s,e1,e2,e3⟩:=h;exact ⟨v,s,h1.trans e1,e2.same (h2.block B hB hne),ic e3 h2 hRN⟩
theorem m6 (R N B:Nat) (p:Value) (ah ms lk:Int) (l:List UInt8) (ss:List Value) (ct:Int) (t:ByteArray) (n:Nat) (w:World) (hRN:R<N) (hB:B<w.heap.size) (hne:B≠R) (hn:n≤65535) (ha1:0≤ah) (ha2:ah≤10)
  (h:Rdg w R N B p ah ms lk l ss ct t) :
  Calls prog 217 #[.pointer (some ⟨R,0,none⟩),.int .i64 n] w fun e w'=>e=.returned (if oL ah ms n l=true then cS 3 else .nilIface)∧Nr R w w'∧Rdg w' R N B p ah ms lk l ss ((n:Int) - ah) t:=by
 obtain ⟨v,s,hR,hv,ho⟩:=h;obtain ⟨off,cap,hvf,hcap,hl⟩:=hv;subst hvf;obtain ⟨c0,c1,c2,c3,c4,c5,c6,c7,cf⟩:=j_ hR;have hf:=cf 6;have HR:=aa hR;clear cf hR;have HF:Hid (∀ w',w'.heap[R]?=some (.cells #[p,.int .i64 ah,.int .i64 ms,.int .i64 lk,.slice (some ⟨B,off,none⟩) l.length cap,s,.int .i64 ((n:Int) - ah),.string t] 253)→Nr R w w'→Rdg w' R N B p ah ms lk l ss ((n:Int) - ah) t) :=
  aa fun w' q1 q2=>⟨_,s,q1,⟨off,cap,rfl,hcap,hl.same (q2.block B hB hne)⟩,ic ho q2 hRN⟩
 have hb:(decide ((n:Int) - ah<0)=true∧oL ah ms n l=true)∨(decide ((n:Int) - ah<0)=false∧decide (ms<(n:Int) - ah)=true∧oL ah ms n l=true)∨(decide ((n:Int) - ah<0)=false∧decide (ms<(n:Int) - ah)=false∧decide ((l.length:Int)<(n:Int) - ah)=true∧oL ah ms n l=true) ∨
   (decide ((n:Int) - ah<0)=false∧decide (ms<(n:Int) - ah)=false∧decide ((l.length:Int)<(n:Int) - ah)=false∧oL ah ms n l=false):=by
  unfold oL;by_cases h1:(n:Int) - ah<0
  ·exact Or.inl ⟨decide_eq_true h1,decide_eq_true (Or.inl h1)⟩
  ·by_cases h2:ms<(n:Int) - ah
   ·exact Or.inr (Or.inl ⟨decide_eq_false h1,decide_eq_true h2,decide_eq_true (Or.inr (Or.inl h2))⟩)
   ·by_cases h3:(l.length:Int)<(n:Int) - ah
    ·exact Or.inr (Or.inr (Or.inl ⟨decide_eq_false h1,decide_eq_false h2,decide_eq_true h3,decide_eq_true (Or.inr (Or.inr h3))⟩))
    ·exact Or.inr (Or.inr (Or.inr ⟨decide_eq_false h1,decide_eq_false h2,decide_eq_false h3,decide_eq_false (by omega)⟩))
 generalize oL ah ms n l=bd at *;obtain ⟨X,hX⟩:∃ X:Int,(n:Int) - ah=X:=⟨_,rfl⟩;have HX:=aa hX;have HB:=aa hb;rw [hX] at HB HF ⊢;clear hb ho hl hX;go_enter func217,ntmps217
 go_wp2_with fail
 refine aI (fun q=>q.heap[R]?=some (.cells #[p,.int .i64 ah,.int .i64 ms,.int .i64 lk,.slice (some ⟨B,off,none⟩) l.length cap,s,.int .i64 X,.string t] 253)∧Nr R w q)
  ⟨by rw [zH _ _ 6 _ _ _ (uh HR),uh HX];rfl,(Nr.refl _ _).setCell 6 _⟩ ?_
 clear c0 c1 c2 c3 c4 c5 c6 c7 hf HR HX;rintro q ⟨hR,hnr⟩;obtain ⟨c0,c1,c2,c3,c4,c5,c6,c7,cf⟩:=j_ hR;have HR:=aa hR;have hb:=uh HB;clear cf hR HB;rcases hb with ⟨e1,rfl⟩ | ⟨e1,e2,rfl⟩ | ⟨e1,e2,e3,rfl⟩ | ⟨e1,e2,e3,rfl⟩
 all_goals
  go_quiet (fail)
  go_wp2
  go_ret
  exact ⟨rfl,hnr.drewN _,uh HF _ (uh HR) (hnr.drewN _)⟩
theorem uX (l:List UInt8) (h:l.length≤2):ax l≤65535:=by
 rcases l with _ | ⟨c,_ | ⟨d,_ | ⟨e,r⟩⟩⟩
 ·simp [ax]
 ·have:=c.toNat_lt
  simp [ax];omega
 ·have:=c.toNat_lt
  have:=d.toNat_lt
  simp [ax];omega
 ·simp at h
theorem lN (R N B:Nat) (p:Value) (ah ms lk:Int) (l:List UInt8) (ss:List Value) (ct:Int) (t:ByteArray) (w:World) (hRN:R<N) (hB:B<w.heap.size) (hne:B≠R) (ha1:0≤ah) (ha2:ah≤10) (hs:1≤l.length)
  (h:Rdg w R N B p ah ms lk l ss ct t) :
  Calls prog 205 #[.pointer (some ⟨R,0,none⟩)] w fun e w'=>e=.returned (if oL ah ms (ax (l.take 1)) (l.drop 1)=true then cS 3 else .nilIface)∧Nr R w w'∧Rdg w' R N B p ah ms lk (l.drop 1) ss ((ax (l.take 1):Nat) - ah) t:=by
 obtain ⟨v,s,hR,hv,ho⟩:=h;have hM:ax (l.take 1)≤65535:=uX _ (by rw [List.length_take];omega);have C:=aa (pn R B 1 l v p (.int .i64 ah) (.int .i64 ms) (.int .i64 lk) s (.int .i64 ct) (.string t) w (by decide) hs hB hne hv hR);have HO:=aa ho;generalize ax (l.take 1)=M at *;generalize l.drop 1=L at *;obtain ⟨V,hV⟩:∃ V,(if oL ah ms M L=true then cS 3 else .nilIface)=V:=⟨_,rfl⟩;rw [hV];have HV:=aa hV;clear hR ho hv hV;go_enter func205,ntmps205
 go_wp2_with fail
 refine (uh C).mono ?_;rintro e w1 ⟨rfl,v1,hR1,hv1,hn1⟩;have C2:=aa (m6 R N B p ah ms lk L ss ct t M w1 hRN (Nat.lt_of_lt_of_le hB hn1.size) hne hM ha1 ha2 ⟨v1,s,hR1,hv1,ic (uh HO) hn1 hRN⟩);rw [uh HV] at C2;clear C hR1 hv1 HO HV;go_wp2_with fail
 refine (uh C2).mono ?_;rintro e w2 ⟨rfl,hn2,hr2⟩;go_wp2
 go_ret
 exact ⟨rfl,hn1.trans hn2,hr2⟩
theorem m7 (R N B:Nat) (p:Value) (ah ms lk:Int) (l:List UInt8) (ss:List Value) (ct:Int) (t:ByteArray) (w:World) (hs:l.length<1) (h:Rdg w R N B p ah ms lk l ss ct t) :
  Calls prog 205 #[.pointer (some ⟨R,0,none⟩)] w fun e w'=>e=.returned (cS lk)∧Nr R w w':=by
 obtain ⟨v,s,hR,hv,ho⟩:=h;have C:=aa (jK R B 1 l v lk p (.int .i64 ah) (.int .i64 ms) s (.int .i64 ct) (.string t) w hs hv hR);clear hR hv ho;unfold cS at *;go_enter func205,ntmps205
 go_wp2_with fail
 refine (uh C).mono ?_;rintro e w1 ⟨rfl,k,rfl⟩;clear C;go_wp2
 go_ret
 exact ⟨rfl,(Nr.refl _ _).drewN k⟩
theorem ni (R N B:Nat) (p:Value) (ah ms lk:Int) (l:List UInt8) (ss:List Value) (ct:Int) (t:ByteArray) (w:World) (hRN:R<N) (hB:B<w.heap.size) (hne:B≠R) (ha1:0≤ah) (ha2:ah≤10) (hs:2≤l.length)
  (h:Rdg w R N B p ah ms lk l ss ct t) :
  Calls prog 206 #[.pointer (some ⟨R,0,none⟩)] w fun e w'=>e=.returned (if oL ah ms (ax (l.take 2)) (l.drop 2)=true then cS 3 else .nilIface)∧Nr R w w'∧Rdg w' R N B p ah ms lk (l.drop 2) ss ((ax (l.take 2):Nat) - ah) t:=by
 obtain ⟨v,s,hR,hv,ho⟩:=h;have hM:ax (l.take 2)≤65535:=uX _ (by rw [List.length_take];omega);have C:=aa (pn R B 2 l v p (.int .i64 ah) (.int .i64 ms) (.int .i64 lk) s (.int .i64 ct) (.string t) w (by decide) hs hB hne hv hR);have HO:=aa ho;generalize ax (l.take 2)=M at *;generalize l.drop 2=L at *;obtain ⟨V,hV⟩:∃ V,(if oL ah ms M L=true then cS 3 else .nilIface)=V:=⟨_,rfl⟩;rw [hV];have HV:=aa hV;clear hR ho hv hV;go_enter func206,ntmps206
 go_wp2_with fail
 refine (uh C).mono ?_;rintro e w1 ⟨rfl,v1,hR1,hv1,hn1⟩;have C2:=aa (m6 R N B p ah ms lk L ss ct t M w1 hRN (Nat.lt_of_lt_of_le hB hn1.size) hne hM ha1 ha2 ⟨v1,s,hR1,hv1,ic (uh HO) hn1 hRN⟩);rw [uh HV] at C2;clear C hR1 hv1 HO HV;go_wp2_with fail
 refine (uh C2).mono ?_;rintro e w2 ⟨rfl,hn2,hr2⟩;go_wp2
 go_ret
 exact ⟨rfl,hn1.trans hn2,hr2⟩
theorem kG (R N B:Nat) (p:Value) (ah ms lk:Int) (l:List UInt8) (ss:List Value) (ct:Int) (t:ByteArray) (w:World) (hs:l.length<2) (h:Rdg w R N B p ah ms lk l ss ct t) :
  Calls prog 206 #[.pointer (some ⟨R,0,none⟩)] w fun e w'=>e=.returned (cS lk)∧Nr R w w':=by
 obtain ⟨v,s,hR,hv,ho⟩:=h;have C:=aa (jK R B 2 l v lk p (.int .i64 ah) (.int .i64 ms) s (.int .i64 ct) (.string t) w hs hv hR);clear hR hv ho;unfold cS at *;go_enter func206,ntmps206
 go_wp2_with fail
 refine (uh C).mono ?_;rintro e w1 ⟨rfl,k,rfl⟩;clear C;go_wp2
 go_ret
 exact ⟨rfl,(Nr.refl _ _).drewN k⟩
theorem sN (R N B:Nat) (p:Value) (ah ms lk:Int) (l:List UInt8) (ss:List Value) (k:Nat) (t:ByteArray) (w:World) (hRN:R<N) (hB:B<w.heap.size) (hne:B≠R) (hk:k≤l.length)
  (h:Rdg w R N B p ah ms lk l ss k t) :
  Calls prog 207 #[.pointer (some ⟨R,0,none⟩)] w fun e w'=>e=.returned .nilIface∧Nr R w w'∧Rdg w' R N B p ah ms lk (l.drop k) ss k (co (l.take k)):=by
 obtain ⟨v,s,hR,hv,ho⟩:=h;obtain ⟨off,cap,hvf,hcap,hl⟩:=hv;subst hvf;have C:=aa (nn R B off l.length cap k p (.int .i64 ah) (.int .i64 ms) (.int .i64 lk) s (.int .i64 k) (.string t) w hk hcap hR);obtain ⟨c0,c1,c2,c3,c4,c5,c6,c7,cf⟩:=j_ hR;have HO:=aa ho;have HL:=aa hl;clear hR ho hl cf;go_enter func207,ntmps207
 go_wp2_with fail
 refine (uh C).mono ?_;rintro e w1 ⟨rfl,ht⟩;obtain ⟨⟨v1,hR1,hv1,hn1⟩,ht2⟩:=jJ ht (uh HL) hB hne;have hcv:=ow ht2 (cap:=k);rw [show (l.take k).length=k by rw [List.length_take];omega] at hcv;obtain ⟨e0,e1,e2,e3,e4,e5,e6,e7,ef⟩:=j_ hR1;have hf:=ef 7;have HR1:=aa hR1;have HV1:=aa hv1;have HO1:=aa (ic (uh HO) hn1 hRN);clear c0 c1 c2 c3 c4 c5 c6 c7 ht ht2 ef C hR1 hv1 HO HL;go_wp2
 go_ret
 refine ⟨rfl,hn1.setCell 7 _,v1,s,?_,?_,?_⟩
 ·rw [zH _ _ 7 _ _ _ (uh HR1)];rfl
 ·exact (uh HV1).same (Below.heap_setCell w1 ⟨R,7,none⟩ _ B hne)
 ·exact aY (uh HO1) fun g hg _=>Below.heap_setCell w1 ⟨R,7,none⟩ _ g (by show g≠R;omega)
theorem oM (w:World) (o o':Obj):({ w.alloc o with heap:=(w.alloc o).heap.setIfInBounds w.heap.size o' }:World)=w.alloc o':=by
 unfold World.alloc;congr 1
 simp only [Array.push];simp [Array.setIfInBounds]
theorem iD (w:World) (es:Array MapEntry) (c:Nat) (k:Int) (v:Value) (hf:Instr.findNow (.int .i64) (.int .i64 k) es.toList 0=some none) :
  (Instr.mapUpdate 271 (.map (some w.heap.size)) (.int .i64 k) v).run prog (w.alloc (.map es c))=.ok () (w.alloc (.map (es.push { key:=.int .i64 k,val:=v,born:=c }) (c+1))):=by
 have hb:=(MapKept.heap_alloc w (.map es c)).1;unfold Instr.mapUpdate;simp only [Sem.run_bind,run_underlying underlying271,MapKept.run_getObj_map hb,MapKept.run_checkKey underlying273 (d:=.int .i64) (k:=.int .i64 k) (by trivial),MapKept.run_findKey underlying273 hf,Result.andThen];rw [MapKept.run_setObj_map _ hb,oM]
theorem e_ (w:World) (M:Nat) (es:Array MapEntry) (c i:Nat) (k:Int) (v:Value) (hb:w.heap[M]?=some (.map es c)) (hf:Instr.findNow (.int .i64) (.int .i64 k) es.toList 0=some (some (i,v))) :
  (Instr.lookup 271 (.map (some M)) (.int .i64 k) false).run prog w=.ok v w:=by
 unfold Instr.lookup;simp only [Sem.run_bind,Sem.run_pure,run_underlying underlying271,MapKept.run_getObj_map hb,MapKept.run_checkKey underlying273 (d:=.int .i64) (k:=.int .i64 k) (by trivial),MapKept.run_findKey underlying273 hf,Result.andThen];rfl
abbrev eE (f:Nat):Value:=.func (.func f) #[] #[]
def cW:Array MapEntry:=#[{ key:=.int .i64 0,val:=eE 204,born:=0 },{ key:=.int .i64 1,val:=eE 205,born:=1 },{ key:=.int .i64 2,val:=eE 206,born:=2 },{ key:=.int .i64 3,val:=eE 207,born:=3 }]
theorem fC (w:World):Calls prog 193 #[] w fun e w'=>e=.returned (.map (some w.heap.size))∧w'=w.alloc (.map cW 4):=by
 have hmm:=@run_makeMap prog;have h0:=iD w #[] 0 0 (eE 204) rfl;have h1:=iD w #[{ key:=.int .i64 0,val:=eE 204,born:=0 }] 1 1 (eE 205) rfl;have h2:=iD w #[{ key:=.int .i64 0,val:=eE 204,born:=0 },{ key:=.int .i64 1,val:=eE 205,born:=1 }] 2 2 (eE 206) rfl;have h3:=iD w #[{ key:=.int .i64 0,val:=eE 204,born:=0 },{ key:=.int .i64 1,val:=eE 205,born:=1 },{ key:=.int .i64 2,val:=eE 206,born:=2 }] 3 3 (eE 207) rfl;simp only [List.push_toArray,List.cons_append,List.nil_append] at h0 h1 h2 h3;go_enter func193,ntmps193
 go_wp2
 go_ret
 exact ⟨rfl,rfl⟩
end Go.Proofs.YtjebigodbnefiaaGreatDoor
