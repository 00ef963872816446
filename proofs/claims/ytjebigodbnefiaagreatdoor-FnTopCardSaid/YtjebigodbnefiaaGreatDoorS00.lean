/- Own Txt StrRow Ints OwnB Lies Opt PkRow Bys OptRow SizeK DkA Math Hd Accm Right Src -/
import Derived.Test.YtjebigodbnefiaaGreatDoorShW
import Derived.BigQuiet
import Derived.Deep.DeepCutAuto
import Derived.Test.YtjebigodbnefiaaGreatDoorDsk
import Derived.Deep.WholeRow
set_option maxHeartbeats 2000000
namespace Go.Proofs.YtjebigodbnefiaaGreatDoor
open Go.RowKit Go.Proofs.Tryz
theorem aI {P:Program} {c:Code} {Q:Exit→Act→World→Prop} {a:Act} {W:World} (R:World→Prop) (hW:R W) (h:∀ v,R v→Code.wp P c Q a v):Code.wp P c Q a W:=h W hW
theorem fg (s:ByteArray) (k:Nat) (h:k<s.size):s.data.toList.take (k+1)=s.data.toList.take k ++ [s[k]]:=by
 rw [List.take_succ_eq_append_getElem (by simpa using h)];rfl
theorem iJ (xs:List Int):(strOfNums xs).size=xs.length:=by simp [strOfNums,ByteArray.size]
theorem kM {w:World} {base:Nat} {v:Value} {n:Nat} {xs:List Int} (h:w.ownsRow base 5 1 v n (xs.map (Value.int .u8))) :
  (convert 22 9 v).run prog w=.ok (.string (strOfNums xs)) w:=by
 have hl:xs.length=n:=by have:=h.1;simpa using this
 rcases h.2 with ⟨rfl,rfl⟩ | ⟨g,cap,cur,rfl,h2,h3,h4,h5,h6,h7⟩
 ·rw [run_convert_bytes_nil (P:=prog) w 22 5 underlying22 underlying5 0 0 9 underlying9];have:xs=[]:=List.eq_nil_of_length_eq_zero hl
  subst this;rfl
 ·refine run_convert_bytes_arg (P:=prog) w 22 5 underlying22 underlying5 g 0 n cap xs hl (fun i hi=>?_) 9 underlying9;rw [cell_of_row w g (0+i) cur _ (0,0) h3];have e1:(cur.toList.take (n*1))[i]?=(xs.map (Value.int .u8))[i]?:=by rw [h7]
  rw [List.getElem?_take,if_pos (by omega),Array.getElem?_toList] at e1;rw [Nat.zero_add,e1];simp [List.getD,List.getElem?_eq_getElem (show i<xs.length by omega)]
theorem mn:∃ i,prog.info? 5=some i∧i.zero=some (.int .u8 0)∧i.size=1∧i.bytes=1:=by
 have h:(prog.info? 5).map (fun i=>(i.zero,i.size,i.bytes))=some (some (.int .u8 0),1,1):=by kernel_rfl
 obtain ⟨i,hi,hzz⟩:=Option.map_eq_some_iff.1 h;simp only [Prod.mk.injEq] at hzz;exact ⟨i,hi,hzz.1,hzz.2.1,hzz.2.2⟩
def co (l:List UInt8):ByteArray:=⟨l.toArray⟩
def mp (l:List UInt8):List Int:=l.map fun c=>(c.toNat:Int)
def bh (l:List UInt8):List Value:=(mp l).map (Value.int .u8)
theorem oV (l:List UInt8):strOfNums (mp l)=co l:=by
 unfold strOfNums mp co;rw [List.map_map];congr 2
 conv=>rhs;rw [← List.map_id l]
 apply List.map_congr_left
 intro x _;simp
theorem kN (l:List UInt8):(co l).data.toList=l:=rfl
theorem eJ (l:List UInt8):(co l).size=l.length:=by simp [co,ByteArray.size]
theorem oX (l:List UInt8):(bh l).length=l.length:=by simp [bh,mp]
theorem fo (l m:List UInt8):bh (l ++ m)=bh l ++ bh m:=by simp [bh,mp]
theorem kO (c d:UInt8):bh [c,d]=[.int .u8 c.toNat,.int .u8 d.toNat]:=rfl
theorem vC {c d:UInt8} (h:c≠d):((c.toNat:Int) == (d.toNat:Int))=false:=by
 refine beq_eq_false_iff_ne.2 fun e=>h (UInt8.toNat_inj.1 (by omega))
theorem eK {w:World} {base:Nat} {v:Value} {n:Nat} {l:List UInt8} (h:w.ownsRow base 5 1 v n (bh l)) :
  (convert 22 9 v).run prog w=.ok (.string (co l)) w:=by
 rw [← oV];exact kM h
theorem iH {wr:World} {cs:Array Value} {ops:Array Oper} {rest:List Oper} {o:Oper} {a:Act} {Q:Exit→Act→World→Prop} (hgd:o.guard=none) (s x:Operand)
  (ho:o.op=.call { callee:=.builtin .append,args:=#[s,x],argTypes:=#[22,22] })
  (base:Nat) (v:Value) (L news:List UInt8) (hs:a.eval s=v) (hown:wr.ownsRow base 5 1 v L.length (bh L))
  (m:Nat) (hm:news.length=m) (hx:a.eval x=.slice (some ⟨wr.heap.size,0,none⟩) m m) (hcs:cs.toList=bh news) (hlen:L.length+news.length≤10000000) (hbase:base≤wr.heap.size)
  (h:∀ v' w',w'.ownsRow base 5 1 v' (L ++ news).length (bh (L ++ news))→Below base wr w'→wpList prog ops Q rest (a.put o.dst v') w'):wpList prog ops Q (o :: rest) a (wr.alloc (.cells cs 5)):=by
 obtain ⟨ui,hi1,hi2,hi3,hi4⟩:=mn;subst hm;refine wpList_append_own _ hgd s x 22 ho base 5 ui (.int .u8 0) 1 1 underlying22 hi1 hi2 hi3 hi4 rfl (by decide) v L.length (bh L) hs (hown.alloc _) ⟨wr.heap.size,0,none⟩ news.length news.length (bh news) hx (by rw [oX,Nat.mul_one]) ?_ ?_ ?_ ?_ ?_ ?_
 ·intro i u hu;rw [Addr.add_lit,Nat.zero_add,World.cell?_alloc_at _ _ _ _ rfl,← hu,← hcs,Array.getElem?_toList]
 ·intro u hu;simp only [bh,mp,List.map_map,List.mem_map] at hu;obtain ⟨x,_,rfl⟩:=hu;rfl
 ·unfold maxLen;omega
 ·omega
 ·simp;omega
 ·intro v' w2 hown2 hg2 _;refine h v' w2 ?_ ?_
  ·rw [fo,List.length_append];exact hown2
  ·exact ((zC _ _).alloc hbase _).grown hg2 (by simp;omega) (fun q hq=>by exact (World.ownsRow.lt hown q hq).1)
theorem nh {w:World} {ops:Array Oper} {rest:List Oper} {o:Oper} {a:Act} {Q:Exit→Act→World→Prop} (hg:o.guard=none) (l c:Operand) (hop:o.op=Op.makeSlice 22 l c)
  (base:Nat) (C:Int) (n:Nat) (hl:a.eval l=.int .i64 0) (hc:a.eval c=.int .i64 C) (hC:C=(n:Int)) (hn:n≤1000000) (hb:base≤w.heap.size)
  (hK:∀ v w',w'.ownsRow base 5 1 v 0 (bh [])→Below base w w'→wpList prog ops Q rest (a.put o.dst v) w'):wpList prog ops Q (o :: rest) a w:=by
 obtain ⟨ui,hi1,hi2,hi3,hi4⟩:=mn;refine wpList_make_own w hg l c 22 hop base 5 ui (.int .u8 0) 1 underlying22 hi1 hi2 hi3 .i64 .i64 C n hl hc hC (by rw [hi4];omega) (by unfold maxLen;omega) hb fun w' h1 h2=>?_
 exact hK _ w' h1 ((zC _ _).grown h2 hb (fun k hk=>by cases hk))
theorem af {w:World} {base:Nat} {e:TypeId} {size:Nat} {v:Value} {n:Nat} {xs:List Value} (h:w.ownsRow base e size v n xs):∃ ad cp,v=.slice ad n cp:=by
 rcases h.2 with ⟨rfl,rfl⟩ | ⟨g,cap,cur,rfl,_⟩
 ·exact ⟨_,_,rfl⟩
 ·exact ⟨_,_,rfl⟩
theorem aX {w:World} {B:Nat} {cs:Array Value} {T:TypeId} (h:w.heap[B]?=some (.cells cs T)) (o:Nat):w.frozen? ⟨B,o,none⟩=false:=by simp [World.frozen?,h]
def a_ (l:List ByteArray):List Value:=l.map Value.string
theorem mq (l:List ByteArray):(a_ l).length=l.length:=by simp [a_]
theorem fT (l r:List ByteArray):a_ (l ++ r)=a_ l ++ a_ r:=by simp [a_]
theorem iK (l:List ByteArray) (i:Nat) (t:ByteArray) (h:l[i]?=some t):(a_ l)[i]?=some (.string t):=by simp [a_,h]
theorem yN:∃ i,prog.info? 9=some i∧i.zero=some (.string ⟨#[]⟩)∧i.size=1∧i.bytes=16:=by
 have h:(prog.info? 9).map (fun i=>(i.zero,i.size,i.bytes))=some (some (.string ⟨#[]⟩),1,16):=by kernel_rfl
 obtain ⟨i,hi,hzz⟩:=Option.map_eq_some_iff.1 h;simp only [Prod.mk.injEq] at hzz;exact ⟨i,hi,hzz.1,hzz.2.1,hzz.2.2⟩
def HoldsT (w:World) (v:Value) (L:List ByteArray):Prop :=
 (∃ ad cp,v=.slice ad 0 cp∧L=[])∨∃ g cp cur,v=.slice (some ⟨g,0,none⟩) L.length cp∧w.heap[g]?=some (.cells cur 9)∧L.length≤cur.size∧∀ j,j<L.length→cur[j]?=(a_ L)[j]?
theorem HoldsT.own {w:World} {base:Nat} {v:Value} {L:List ByteArray} (h:w.ownsRow base 9 1 v L.length (a_ L)):HoldsT w v L:=by
 rcases h.2 with ⟨h1,h2⟩ | ⟨g,cap,cur,h1,_,h3,h4,_,h6,h7⟩
 ·exact Or.inl ⟨_,_,h1,List.eq_nil_of_length_eq_zero h2⟩
 ·refine Or.inr ⟨g,cap,cur,h1,h3,by rw [h6];omega,fun j hj=>?_⟩;rw [← h7,List.getElem?_take,if_pos (by omega),Array.getElem?_toList]
theorem HoldsT.below {n:Nat} {w w':World} {v:Value} {L:List ByteArray} (h:HoldsT w v L) (hb:Below n w w') (hn:n=w.heap.size):HoldsT w' v L:=by
 subst hn;exact h.imp id fun ⟨g,cp,cur,h1,h2,h3⟩=>⟨g,cp,cur,h1,(hb.block g (ge.1 h2).1).trans h2,h3⟩
theorem HoldsT.form {w:World} {v:Value} {L:List ByteArray} (h:HoldsT w v L):∃ ad cp,v=.slice ad L.length cp:=by
 rcases h with ⟨ad,cp,h1,h2⟩ | ⟨g,cp,cur,h1,_⟩
 ·exact ⟨ad,cp,by rw [h1,h2];rfl⟩
 ·exact ⟨_,_,h1⟩
theorem dw {wr:World} {ops:Array Oper} {rest:List Oper} {o:Oper} {a:Act} {Q:Exit→Act→World→Prop} (hgd:o.guard=none) (s x:Operand)
  (ho:o.op=.call { callee:=.builtin .append,args:=#[s,x],argTypes:=#[37,37] })
  (base:Nat) (v:Value) (L:List ByteArray) (n:Nat) (hn:L.length=n) (hs:a.eval s=v) (hown:wr.ownsRow base 9 1 v n (a_ L)) (t:ByteArray) (hx:a.eval x=.slice (some ⟨wr.heap.size,0,none⟩) 1 1) (hlen:n≤1000000) (hbase:base≤wr.heap.size)
  (h:∀ v' w',w'.ownsRow base 9 1 v' (n+1) (a_ (L ++ [t]))→(wr.alloc (.cells #[.string t] 9)).grownBy w' v.ownBlock→wpList prog ops Q rest (a.put o.dst v') w'):wpList prog ops Q (o :: rest) a (wr.alloc (.cells #[.string t] 9)):=by
 obtain ⟨i0,hi0,hz0,hz1,hz2⟩:=yN;refine wpList_append_own _ hgd s x 37 ho base 9 i0 _ 1 16 underlying37 hi0 hz0 hz1 hz2 rfl (by decide) v n (a_ L) hs (hown.alloc _) ⟨wr.heap.size,0,none⟩ 1 1 [.string t] hx rfl ?_ ?_ ?_ ?_ ?_ ?_
 ·intro i u hu;rw [Addr.add_lit,Nat.zero_add,World.cell?_alloc_at _ _ _ _ rfl,← hu];simp
 ·intro u hu;simp only [List.mem_cons,List.not_mem_nil,or_false] at hu;rw [hu];rfl
 ·unfold maxLen;omega
 ·omega
 ·simp;omega
 ·intro v' w2 hown2 hg2 _;refine h v' w2 ?_ hg2;rw [fT];exact hown2
theorem kP (a b:Nat) (ha:a<4294967296) (hb:b<4294967296):bits .and .i64 (a:Int) (b:Int)=((a &&& b:Nat):Int):=by
 have h3:a &&& b≤a:=Nat.and_le_left;show IntKind.i64.wrap ((BitVec.ofInt 64 (a:Int) &&& BitVec.ofInt 64 (b:Int)).toNat:Int)=_
 rw [BitVec.toNat_and,ofInt_u64 a (by omega),ofInt_u64 b (by omega),IntKind.wrap_i64];omega
theorem tT {a b:Bool} (h:a=b):Ending.returned (.bool a)=.returned (.bool b):=by rw [h]
structure Nr (B:Nat) (w w':World):Prop where
 os:w'.os=w.os
 tape:w'.tape=w.tape
 output:w'.output=w.output
 size:w.heap.size≤w'.heap.size
 block:∀ k,k<w.heap.size→k≠B→w'.heap[k]?=w.heap[k]?
theorem Nr.refl (B:Nat) (w:World):Nr B w w:=⟨rfl,rfl,rfl,zD _,fun _ _ _=>rfl⟩
theorem Nr.trans {B:Nat} {a b c:World} (h:Nr B a b) (k:Nr B b c):Nr B a c :=
 ⟨k.os.trans h.os,k.tape.trans h.tape,k.output.trans h.output,zE h.size k.size,fun i hi hn=>(k.block i (Nat.lt_of_lt_of_le hi h.size) hn).trans (h.block i hi hn)⟩
theorem Nr.drew {B:Nat} {a w:World} (h:Nr B a w):Nr B a w.drew:=⟨h.os,h.tape,h.output,h.size,h.block⟩
theorem Nr.drewN {B:Nat} {a w:World} (h:Nr B a w) (k:Nat):Nr B a (w.drewN k):=⟨h.os,h.tape,h.output,h.size,h.block⟩
theorem Nr.setCell {B:Nat} {a w:World} (h:Nr B a w) (o:Nat) (v:Value):Nr B a (w.setCell ⟨B,o,none⟩ v):=by
 have hb:=(zC 0 w).setCell (p:=⟨B,o,none⟩) (Nat.zero_le _) v;exact ⟨hb.os.trans h.os,hb.tape.trans h.tape,hb.output.trans h.output,zE h.size hb.size,fun k hk hn=>(Below.heap_setCell w ⟨B,o,none⟩ v k hn).trans (h.block k hk hn)⟩
theorem Nr.of_below {B:Nat} {a w w':World} (h:Nr B a w) (hb:Below w.heap.size w w'):Nr B a w' :=
 h.trans ⟨hb.os,hb.tape,hb.output,hb.size,fun k hk _=>hb.block k hk⟩
theorem Nr.alloc {B:Nat} {a w:World} (h:Nr B a w) (o:Obj):Nr B a (w.alloc o):=h.of_below ((zC _ _).alloc (zD _) _)
theorem Nr.below {B n:Nat} {w w':World} (h:Nr B w w') (hn:n≤B) (hw:n≤w.heap.size):Below n w w' :=
 ⟨h.os,h.tape,h.output,h.size,fun k hk=>h.block k (by omega) (by omega)⟩
theorem aY {w w':World} {base:Nat} {e:TypeId} {size:Nat} {v:Value} {n:Nat} {xs:List Value} (h:w.ownsRow base e size v n xs) (hb:∀ g,base≤g→g<w.heap.size→w'.heap[g]?=w.heap[g]?):w'.ownsRow base e size v n xs :=
 ⟨h.1,h.2.imp id fun ⟨g,cap,cur,h1,h2,h3,h4⟩=>⟨g,cap,cur,h1,h2,(hb g h2 (ge.1 h3).1).trans h3,h4⟩⟩
structure But (o:Option Nat) (w w':World):Prop where
 os:w'.os=w.os
 tape:w'.tape=w.tape
 output:w'.output=w.output
 size:w.heap.size≤w'.heap.size
 block:∀ b,b<w.heap.size→o≠some b→w'.heap[b]?=w.heap[b]?
theorem But.of_below {o:Option Nat} {w w':World} (h:Below w.heap.size w w'):But o w w':=⟨h.os,h.tape,h.output,h.size,fun b hb _=>h.block b hb⟩
theorem bC (t:ByteArray):t.data.toList.length=t.size:=by rw [Array.length_toList];rfl
def Lies (w:World) (B off:Nat) (l:List UInt8):Prop:=∀ i (h:i<l.length),w.cell? ⟨B,off+i,none⟩=some (.int .u8 l[i].toNat)
theorem Lies.below {w w':World} {B off N:Nat} {l:List UInt8} (h:Lies w B off l) (hb:Below N w w') (hB:B<N):Lies w' B off l :=
 fun i hi=>(hb.cell (p:=⟨B,off+i,none⟩) hB).trans (h i hi)
theorem Lies.drop {w:World} {B off:Nat} {l:List UInt8} (h:Lies w B off l) (n:Nat):Lies w B (off+n) (l.drop n):=fun i hi=>by
 rw [List.length_drop] at hi;rw [Nat.add_assoc,h (n+i) (by omega)];simp
theorem or8 (a b:Nat) (ha:a<256) (hb:b<256):bits .or .i64 ((a:Int)*256) (b:Int)=((256*a+b:Nat):Int):=by
 have h1:a*256 ||| b=a*2 ^ 8+b:=by
  rw [Nat.mul_comm,show (256:Nat)=2 ^ 8 from rfl,← Nat.two_pow_add_eq_or_of_lt (by omega),Nat.mul_comm]
 show IntKind.i64.wrap ((BitVec.ofInt 64 ((a:Int)*256) ||| BitVec.ofInt 64 (b:Int)).toNat:Int)=_
 rw [show (a:Int)*256=((a*256:Nat):Int) by omega,BitVec.toNat_or,ofInt_u64 (a*256) (by omega),ofInt_u64 b (by omega),h1,IntKind.wrap_i64];omega
def ax (l:List UInt8):Nat:=l.foldl (fun n c=>256*n+c.toNat) 0
theorem rL (B off cap:Nat) (l:List UInt8) (w:World) (hl2:l.length≤2) (hl:Lies w B off l) :
  Calls prog 202 #[.slice (some ⟨B,off,none⟩) l.length cap] w fun e w'=>e=.returned (.int .i64 (ax l:Nat))∧w'=w:=by
 go_enter func202,ntmps202
 go_wp2
 go_loop [3,8] (fun n i=>∃ (k:Nat),k≤l.length∧i=.int .i64 k∧n=.int .i64 (ax (l.take k):Nat)) (fun _ i=>l.length - (intOf i).toNat)
 case atStart=>exact ⟨0,Nat.zero_le _,rfl,rfl⟩
 case round =>
  obtain ⟨k,hk,rfl,rfl⟩:=hrel;by_cases hlt:k<l.length
  ·have hc:=hl k hlt;have HS:Hid (ax (l.take (k+1))=256*ax (l.take k)+l[k].toNat):=aa (by unfold ax;rw [List.take_succ_eq_append_getElem hlt,List.foldl_append];rfl);have hk2:k<2:=by omega
   have hn:ax (l.take k)<256:=by
    rcases l with _ | ⟨c,_ | ⟨d,r⟩⟩
    ·simp at hlt
    ·simp at hlt;subst hlt;simp [ax]
    ·have:=c.toNat_lt
     rcases Nat.lt_or_ge k 1 with h | h
     ·have hk0:k=0:=by omega
      subst hk0;simp [ax]
     ·have hk1:k=1:=by omega
      subst hk1;simpa [ax] using this
   have ho:=or8 (ax (l.take k)) l[k].toNat hn l[k].toNat_lt;have HW:Hid (wrap64 (l[k].toNat:Int)=(l[k].toNat:Int)):=aa (by have:=l[k].toNat_lt;unfold wrap64;omega);generalize ax (l.take k)=n at *;have d1:(k:Int)<(l.length:Int):=by omega
   clear hl;go_wp2
   go_round
   case rel=>exact ⟨k+1,by omega,by go_num,by rw [uh HW,ho,uh HS]⟩
   case measure=>simp [intOf];omega
  ·have HK:=aa (List.take_of_length_le (l:=l) (i:=k) (by omega));have d1:¬ ((k:Int)<(l.length:Int)):=by omega
   go_wp2
   go_ret
   exact ⟨by rw [uh HK];rfl,rfl⟩
theorem kT (t:ByteArray) (W:World):∃ cap W',(convert 9 22 (.string t)).run prog W=.ok (.slice (some ⟨W.heap.size,0,none⟩) t.data.toList.length cap) W'∧t.data.toList.length≤cap∧Lies W' W.heap.size 0 t.data.toList∧Below W.heap.size W W'∧W.heap.size<W'.heap.size:=by
 have h:=run_bytes_of_string (P:=prog) W 9 22 5 t underlying9 underlying22 underlying5;have hg:=grownCap_ge W t.size 0 5;refine ⟨_,_,by rw [bC];exact h,by rw [bC];omega,?_,(zC _ _).drew.alloc (zD _) _,by simp⟩;intro i hi;have hh:(W.drew.alloc (.cells (bytesRow t (grownCap W t.size 0 5)) 5 ((bytesRow t (grownCap W t.size 0 5)).size,(bytesRow t (grownCap W t.size 0 5)).size+1))).heap[W.heap.size]?=_:=zF W.drew _;rw [cr hh];have hi':i<t.size:=by rw [← bC];exact hi
 simp [bytesRow,Array.getElem?_append,hi']
theorem ow {w:World} {B off:Nat} {l:List UInt8} (h:Lies w B off l) {cap:Nat}:(convert 22 9 (.slice (some ⟨B,off,none⟩) l.length cap)).run prog w=.ok (.string (co l)) w :=
 run_convert_bytes_back (P:=prog) w 22 9 5 ⟨B,off,none⟩ cap l underlying22 underlying5 underlying9 (fun j hj=>by rw [Addr.add_lit];exact h j hj)
end Go.Proofs.YtjebigodbnefiaaGreatDoor
namespace Go.Proofs.YtjebigodbnefiaaGreatDoor.Op
structure Opt where
 kind:Int
 data:ByteArray
def ok (o:Opt):Bool:=decide (1≤o.kind∧o.kind≤255∧o.data.size≤20)
def right (l:List Opt):Bool:=decide (l.length≤20) && l.all ok
def one (o:Opt):List UInt8:=[UInt8.ofNat o.kind.toNat,UInt8.ofNat (o.data.size+2)] ++ o.data.data.toList
def bytes (l:List Opt):List UInt8:=l.flatMap one
def told (l:List Opt):List UInt8:=if right l=true then bytes l else []
def rd (l:List UInt8):Option (List Opt) :=
 match l with
 | []=>some []
 | [_]=>none
 | k :: n :: r=>if _h:n.toNat<2∨r.length+2<n.toNat then none else (rd (r.drop (n.toNat - 2))).map fun L=>⟨(k.toNat:Int),co (r.take (n.toNat - 2))⟩ :: L
termination_by l.length
decreasing_by simp;omega
def acc (out:List Opt) (l:List UInt8):Option (List Opt):=(rd l).bind fun L=>if right (out ++ L)=true then some (out ++ L) else none
theorem rd_nil:rd []=some []:=by rw [rd]
theorem rd_one (c:UInt8):rd [c]=none:=by rw [rd]
theorem rd_bad {k n:UInt8} {r:List UInt8} (h:n.toNat<2∨r.length+2<n.toNat):rd (k :: n :: r)=none:=by rw [rd,dif_pos h]
theorem rd_step {k n:UInt8} {r:List UInt8} (h:¬ (n.toNat<2∨r.length+2<n.toNat)):rd (k :: n :: r)=(rd (r.drop (n.toNat - 2))).map fun L=>⟨(k.toNat:Int),co (r.take (n.toNat - 2))⟩ :: L:=by rw [rd,dif_neg h]
theorem right_len {l:List Opt} (h:right l=true):l.length≤20:=by
 unfold right at h;rw [Bool.and_eq_true] at h;exact of_decide_eq_true h.1
theorem right_all {l:List Opt} (h:right l=true):∀ o ∈ l,ok o=true:=by
 unfold right at h;rw [Bool.and_eq_true] at h;exact List.all_eq_true.1 h.2
theorem right_mk {l:List Opt} (h1:l.length≤20) (h2:∀ o ∈ l,ok o=true):right l=true:=by
 unfold right;rw [Bool.and_eq_true];exact ⟨decide_eq_true h1,List.all_eq_true.2 h2⟩
theorem right_front {a b:List Opt} (h:right (a ++ b)=true):right a=true :=
 right_mk (by have:=right_len h;rw [List.length_append] at this;omega) fun o ho=>right_all h o (List.mem_append_left _ ho)
theorem acc_nil (out:List Opt):acc out []=if right out=true then some out else none:=by
 unfold acc;rw [rd_nil];simp
theorem acc_one (out:List Opt) (c:UInt8):acc out [c]=none:=by
 unfold acc;rw [rd_one];rfl
theorem acc_bad (out:List Opt) {k n:UInt8} {r:List UInt8} (h:n.toNat<2∨r.length+2<n.toNat):acc out (k :: n :: r)=none:=by
 unfold acc;rw [rd_bad h];rfl
theorem acc_step (out:List Opt) {k n:UInt8} {r:List UInt8} (h:¬ (n.toNat<2∨r.length+2<n.toNat)):acc out (k :: n :: r)=acc (out ++ [⟨(k.toNat:Int),co (r.take (n.toNat - 2))⟩]) (r.drop (n.toNat - 2)):=by
 unfold acc;rw [rd_step h];cases rd (r.drop (n.toNat - 2)) with
 | none=>rfl
 | some L=>simp
theorem acc_wrong {out:List Opt} (l:List UInt8) (h:right out=false):acc out l=none:=by
 unfold acc;cases rd l with
 | none=>rfl
 | some L =>
  rw [Option.bind_some,if_neg];intro h2;rw [right_front h2] at h;cases h
theorem acc_long (out:List Opt) {k n:UInt8} {r:List UInt8} (h:22<n.toNat):acc out (k :: n :: r)=none:=by
 by_cases hb:n.toNat<2∨r.length+2<n.toNat
 ·exact acc_bad out hb
 ·rw [acc_step out hb];refine acc_wrong _ ?_;rw [← Bool.not_eq_true];intro hr;have ho:=right_all hr ⟨(k.toNat:Int),co (r.take (n.toNat - 2))⟩ (by simp);have h3:=(of_decide_eq_true ho).2.2;rw [eJ,List.length_take] at h3;omega
theorem acc_right {out L:List Opt} {l:List UInt8} (h:acc out l=some L):right L=true:=by
 unfold acc at h;cases hr:rd l with
 | none=>rw [hr] at h;cases h
 | some M =>
  rw [hr,Option.bind_some] at h;by_cases hq:right (out ++ M)=true
  ·rw [if_pos hq] at h;cases h;exact hq
  ·rw [if_neg hq] at h;cases h
theorem one_len (o:Opt):(one o).length=o.data.size+2:=by
 unfold one;rw [List.length_append,Array.length_toList];show 2+o.data.size=_
 omega
theorem bytes_snoc (l:List Opt) (o:Opt):bytes (l ++ [o])=bytes l ++ one o:=by simp [bytes]
theorem bytes_cons (o:Opt) (l:List Opt):bytes (o :: l)=one o ++ bytes l:=by simp [bytes]
theorem bytes_len {l:List Opt} (h:∀ o ∈ l,ok o=true):(bytes l).length≤22*l.length:=by
 induction l with
 | nil=>simp [bytes]
 | cons o l ih =>
  have h1:=(of_decide_eq_true (h o (by simp))).2.2;have h2:=ih fun x hx=>h x (List.mem_cons_of_mem _ hx)
  rw [bytes_cons,List.length_append,one_len,List.length_cons];omega
theorem rd_front {o:Opt} (h:ok o=true) (r:List UInt8):rd (one o ++ r)=(rd r).map fun L=>o :: L:=by
 have h':=of_decide_eq_true h;obtain ⟨k,d⟩:=o;dsimp only at h';have hd:d.data.toList.length=d.size:=by rw [Array.length_toList];rfl
 have hk:((UInt8.ofNat k.toNat).toNat:Int)=k:=by
  have:(UInt8.ofNat k.toNat).toNat=k.toNat:=by simp;omega
  omega
 have hn:(UInt8.ofNat (d.size+2)).toNat=d.size+2:=by simp;omega
 show rd (UInt8.ofNat k.toNat :: UInt8.ofNat (d.size+2) :: (d.data.toList ++ r))=_
 rw [rd_step (by rw [hn,List.length_append];omega),hn,hk,Nat.add_sub_cancel,List.drop_left' hd,List.take_left' hd];rfl
theorem rd_bytes {l:List Opt} (h:∀ o ∈ l,ok o=true):rd (bytes l)=some l:=by
 induction l with
 | nil=>exact rd_nil
 | cons o l ih=>rw [bytes_cons,rd_front (h o (by simp)),ih fun x hx=>h x (List.mem_cons_of_mem _ hx)];rfl
theorem acc_bytes {l:List Opt} (h:right l=true):acc [] (bytes l)=some l:=by
 unfold acc;rw [rd_bytes (right_all h),Option.bind_some,List.nil_append,if_pos h]
theorem bytes_rd (m:Nat):∀ (u:List UInt8) (L:List Opt),u.length≤m→rd u=some L→bytes L=u:=by
 induction m with
 | zero =>
  intro u L hu h;rw [List.eq_nil_of_length_eq_zero (l:=u) (by omega),rd_nil] at h;cases h;rw [List.eq_nil_of_length_eq_zero (l:=u) (by omega)];rfl
 | succ m ih =>
  intro u L hu h;rcases u with _ | ⟨k,_ | ⟨n,r⟩⟩
  ·rw [rd_nil] at h;cases h;rfl
  ·rw [rd_one] at h;cases h
  ·by_cases hb:n.toNat<2∨r.length+2<n.toNat
   ·rw [rd_bad hb] at h;cases h
   ·rw [rd_step hb] at h;cases hr:rd (r.drop (n.toNat - 2)) with
    | none=>rw [hr] at h;cases h
    | some M =>
     rw [hr] at h;cases h;have h2:=ih _ _ (by rw [List.length_drop];simp at hu;omega) hr;have h3:(co (r.take (n.toNat - 2))).size+2=n.toNat:=by rw [eJ,List.length_take];omega
     rw [bytes_cons,h2];unfold one;dsimp only;rw [h3,kN];simp
theorem bytes_acc {u:List UInt8} {L:List Opt} (h:acc [] u=some L):told L=u:=by
 have hr:=acc_right h;unfold told;rw [if_pos hr];unfold acc at h;cases hq:rd u with
 | none=>rw [hq] at h;cases h
 | some M =>
  rw [hq,Option.bind_some,List.nil_append] at h;have h2:=bytes_rd _ u M (zD _) hq;by_cases hm:right M=true
  ·rw [if_pos hm] at h;cases h;exact h2
  ·rw [if_neg hm] at h;cases h
structure Pk where
 code:Int
 id:Int
 data:ByteArray
def pok (p:Pk):Bool:=decide (0≤p.code∧p.code≤255∧0≤p.id∧p.id≤255∧p.data.size≤250)
def phead (p:Pk):List UInt8:=[UInt8.ofNat p.code.toNat,UInt8.ofNat p.id.toNat,UInt8.ofNat ((p.data.size+4) / 256),UInt8.ofNat (p.data.size+4)]
def ptold (p:Pk):List UInt8:=if pok p=true then phead p ++ p.data.data.toList else []
structure Out where
 pk:Pk
 code:Int
def no (c:Int):Out:=⟨⟨0,0,⟨#[]⟩⟩,c⟩
def pread (l:List UInt8):Out :=
 if 8000<l.length then no 2 else
 match l with
 | a :: b :: c :: d :: r=>if 256*c.toNat+d.toNat<4∨254<256*c.toNat+d.toNat∨r.length+4<256*c.toNat+d.toNat then no 3 else ⟨⟨(a.toNat:Int),(b.toNat:Int),co (r.take (256*c.toNat+d.toNat - 4))⟩,0⟩
 | _=>no 4
theorem pread_long {l:List UInt8} (h:8000<l.length):pread l=no 2:=by unfold pread;rw [if_pos h]
theorem pread_short {l:List UInt8} (h:l.length<4):pread l=no 4:=by
 unfold pread;rw [if_neg (by omega)];rcases l with _ | ⟨a,_ | ⟨b,_ | ⟨c,_ | ⟨d,r⟩⟩⟩⟩
 ·rfl
 ·rfl
 ·rfl
 ·rfl
 ·simp at h;omega
theorem pread_bad {a b c d:UInt8} {r:List UInt8} (h8:r.length+4≤8000) (h:256*c.toNat+d.toNat<4∨254<256*c.toNat+d.toNat∨r.length+4<256*c.toNat+d.toNat):pread (a :: b :: c :: d :: r)=no 3:=by
 unfold pread;rw [if_neg (by simp;omega)];dsimp only;rw [if_pos h]
theorem pread_good {a b c d:UInt8} {r:List UInt8} (h8:r.length+4≤8000) (h:¬ (256*c.toNat+d.toNat<4∨254<256*c.toNat+d.toNat∨r.length+4<256*c.toNat+d.toNat)) :
  pread (a :: b :: c :: d :: r)=⟨⟨(a.toNat:Int),(b.toNat:Int),co (r.take (256*c.toNat+d.toNat - 4))⟩,0⟩:=by
 unfold pread;rw [if_neg (by simp;omega)];dsimp only;rw [if_neg h]
end Go.Proofs.YtjebigodbnefiaaGreatDoor.Op
namespace Go.Proofs.YtjebigodbnefiaaGreatDoor
open Go.RowKit Go.Proofs.Tryz
def ae (fs:List Op.Pk):List Value:=fs.flatMap fun f=>[.int .i64 f.code,.int .i64 f.id,.string f.data]
theorem aF (fs:List Op.Pk):(ae fs).length=fs.length*3:=by
 induction fs with
 | nil=>rfl
 | cons f fs ih=>simp [ae] at ih ⊢;omega
theorem aR (fs gs:List Op.Pk):ae (fs ++ gs)=ae fs ++ ae gs:=by simp [ae]
theorem zh:∃ i,prog.info? 32=some i∧i.zero=some (.agg #[.int .i64 0,.int .i64 0,.string ⟨#[]⟩])∧i.size=3∧i.bytes=32:=by
 have h:(prog.info? 32).map (fun i=>(i.zero,i.size,i.bytes))=some (some (.agg #[.int .i64 0,.int .i64 0,.string ⟨#[]⟩]),3,32):=by kernel_rfl
 obtain ⟨i,hi,hzz⟩:=Option.map_eq_some_iff.1 h;simp only [Prod.mk.injEq] at hzz;exact ⟨i,hi,hzz.1,hzz.2.1,hzz.2.2⟩
def HoldsP (w:World) (v:Value) (F:List Op.Pk):Prop :=
 (∃ ad cp,v=.slice ad 0 cp∧F=[])∨∃ g cp cur,v=.slice (some ⟨g,0,none⟩) F.length cp∧w.heap[g]?=some (.cells cur 32)∧F.length*3≤cur.size∧∀ j,j<F.length*3→cur[j]?=(ae F)[j]?
theorem HoldsP.own {w:World} {base:Nat} {v:Value} {F:List Op.Pk} (h:w.ownsRow base 32 3 v F.length (ae F)):HoldsP w v F:=by
 rcases h.2 with ⟨h1,h2⟩ | ⟨g,cap,cur,h1,_,h3,h4,_,h6,h7⟩
 ·exact Or.inl ⟨_,_,h1,List.eq_nil_of_length_eq_zero h2⟩
 ·refine Or.inr ⟨g,cap,cur,h1,h3,by rw [h6];omega,fun j hj=>?_⟩;rw [← h7,List.getElem?_take,if_pos hj,Array.getElem?_toList]
theorem HoldsP.below {n:Nat} {w w':World} {v:Value} {F:List Op.Pk} (h:HoldsP w v F) (hb:Below n w w') (hn:n=w.heap.size):HoldsP w' v F:=by
 subst hn;exact h.imp id fun ⟨g,cp,cur,h1,h2,h3⟩=>⟨g,cp,cur,h1,(hb.block g (ge.1 h2).1).trans h2,h3⟩
theorem HoldsP.form {w:World} {v:Value} {F:List Op.Pk} (h:HoldsP w v F):∃ ad cp,v=.slice ad F.length cp:=by
 rcases h with ⟨ad,cp,h1,h2⟩ | ⟨g,cp,cur,h1,_⟩
 ·exact ⟨ad,cp,by rw [h1,h2];rfl⟩
 ·exact ⟨_,_,h1⟩
theorem HoldsP.other {w w':World} {v:Value} {F:List Op.Pk} (h:HoldsP w v F) (hw:∀ g,v.ownBlock=some g→w'.heap[g]?=w.heap[g]?):HoldsP w' v F:=by
 rcases h with ⟨ad,cp,e,e0⟩ | ⟨g,cp,cur,e,q1,q2⟩
 ·exact Or.inl ⟨ad,cp,e,e0⟩
 ·exact Or.inr ⟨g,cp,cur,e,(hw g (by rw [e];rfl)).trans q1,q2⟩
theorem HoldsP.lt {w:World} {v:Value} {F:List Op.Pk} (h:HoldsP w v F) (hF:F≠[]) (g:Nat) (hg:v.ownBlock=some g):g<w.heap.size:=by
 rcases h with ⟨_,_,_,e⟩ | ⟨g',cp,cur,e,q1,_⟩
 ·exact absurd e hF
 ·rw [e] at hg;cases hg;exact (ge.1 q1).1
theorem jL {wr:World} {ops:Array Oper} {rest:List Oper} {o:Oper} {a:Act} {Q:Exit→Act→World→Prop} (hgd:o.guard=none) (s x:Operand)
  (ho:o.op=.call { callee:=.builtin .append,args:=#[s,x],argTypes:=#[119,119] })
  (base:Nat) (v:Value) (F:List Op.Pk) (n:Nat) (hn:F.length=n) (hs:a.eval s=v) (hown:wr.ownsRow base 32 3 v n (ae F)) (cd id:Int) (dt:ByteArray) (hx:a.eval x=.slice (some ⟨wr.heap.size,0,none⟩) 1 1) (hlen:n≤1000) (hbase:base≤wr.heap.size)
  (h:∀ v' w',w'.ownsRow base 32 3 v' (n+1) (ae (F ++ [⟨cd,id,dt⟩]))→(wr.alloc (.cells #[.int .i64 cd,.int .i64 id,.string dt] 32)).grownBy w' v.ownBlock→wpList prog ops Q rest (a.put o.dst v') w'):wpList prog ops Q (o :: rest) a (wr.alloc (.cells #[.int .i64 cd,.int .i64 id,.string dt] 32)):=by
 obtain ⟨i0,hi0,hz0,hz1,hz2⟩:=zh;refine wpList_append_own _ hgd s x 119 ho base 32 i0 _ 3 32 underlying119 hi0 hz0 hz1 hz2 rfl (by decide) v n (ae F) hs (hown.alloc _) ⟨wr.heap.size,0,none⟩ 1 1 [.int .i64 cd,.int .i64 id,.string dt] hx rfl ?_ ?_ ?_ ?_ ?_ ?_
 ·intro i u hu;rw [Addr.add_lit,Nat.zero_add,World.cell?_alloc_at _ _ _ _ rfl,← hu];simp
 ·intro u hu;simp only [List.mem_cons,List.not_mem_nil,or_false] at hu;rcases hu with rfl | rfl | rfl<;>rfl
 ·unfold maxLen;omega
 ·omega
 ·simp;omega
 ·intro v' w2 hown2 hg2 _;refine h v' w2 ?_ hg2;rw [aR];exact hown2
theorem ra (x:Int) (w:World):Calls prog 25 #[.int .i64 x] w fun e w'=>e=.returned (.bool (decide (0≤x) && decide (x≤255)))∧w'=w:=by
 by_cases h1:0≤x
 ·have d1:decide ((0:Int)≤x)=true:=decide_eq_true h1;rw [d1,Bool.true_and];go_enter func25,ntmps25
  go_wp2
  go_ret
  exact ⟨rfl,rfl⟩
 ·have d1:decide ((0:Int)≤x)=false:=decide_eq_false h1;rw [d1,Bool.false_and];go_enter func25,ntmps25
  go_wp2
  go_ret
  exact ⟨rfl,rfl⟩
def aj (fs:List Op.Opt):List Value:=fs.flatMap fun f=>[.int .i64 f.kind,.string f.data]
theorem bU (fs:List Op.Opt):(aj fs).length=fs.length*2:=by
 induction fs with
 | nil=>rfl
 | cons f fs ih=>simp [aj] at ih ⊢;omega
theorem bV (fs gs:List Op.Opt):aj (fs ++ gs)=aj fs ++ aj gs:=by simp [aj]
theorem bW (fs:List Op.Opt) (i:Nat) (f:Op.Opt) (h:fs[i]?=some f):(aj fs)[i*2]?=some (.int .i64 f.kind)∧(aj fs)[i*2+1]?=some (.string f.data):=by
 induction fs generalizing i with
 | nil=>simp at h
 | cons d fs ih =>
  cases i with
  | zero =>
   simp at h;subst h;exact ⟨rfl,rfl⟩
  | succ i =>
   have:=ih i (by simpa using h)
   have e:aj (d :: fs)=.int .i64 d.kind :: .string d.data :: aj fs:=rfl;rw [e,show (i+1)*2=i*2+2 by omega];exact this
theorem kW:∃ i,prog.info? 27=some i∧i.zero=some (.agg #[.int .i64 0,.string ⟨#[]⟩])∧i.size=2∧i.bytes=24:=by
 have h:(prog.info? 27).map (fun i=>(i.zero,i.size,i.bytes))=some (some (.agg #[.int .i64 0,.string ⟨#[]⟩]),2,24):=by kernel_rfl
 obtain ⟨i,hi,hzz⟩:=Option.map_eq_some_iff.1 h;simp only [Prod.mk.injEq] at hzz;exact ⟨i,hi,hzz.1,hzz.2.1,hzz.2.2⟩
def HoldsO (w:World) (v:Value) (F:List Op.Opt):Prop :=
 (∃ ad cp,v=.slice ad 0 cp∧F=[])∨∃ g cp cur,v=.slice (some ⟨g,0,none⟩) F.length cp∧w.heap[g]?=some (.cells cur 27)∧F.length*2≤cur.size∧∀ j,j<F.length*2→cur[j]?=(aj F)[j]?
theorem HoldsO.own {w:World} {base:Nat} {v:Value} {F:List Op.Opt} (h:w.ownsRow base 27 2 v F.length (aj F)):HoldsO w v F:=by
 rcases h.2 with ⟨h1,h2⟩ | ⟨g,cap,cur,h1,_,h3,h4,_,h6,h7⟩
 ·exact Or.inl ⟨_,_,h1,List.eq_nil_of_length_eq_zero h2⟩
 ·refine Or.inr ⟨g,cap,cur,h1,h3,by rw [h6];omega,fun j hj=>?_⟩;rw [← h7,List.getElem?_take,if_pos hj,Array.getElem?_toList]
theorem HoldsO.below {n:Nat} {w w':World} {v:Value} {F:List Op.Opt} (h:HoldsO w v F) (hb:Below n w w') (hn:n=w.heap.size):HoldsO w' v F:=by
 subst hn;exact h.imp id fun ⟨g,cp,cur,h1,h2,h3⟩=>⟨g,cp,cur,h1,(hb.block g (ge.1 h2).1).trans h2,h3⟩
theorem HoldsO.form {w:World} {v:Value} {F:List Op.Opt} (h:HoldsO w v F):∃ ad cp,v=.slice ad F.length cp:=by
 rcases h with ⟨ad,cp,h1,h2⟩ | ⟨g,cp,cur,h1,_⟩
 ·exact ⟨ad,cp,by rw [h1,h2];rfl⟩
 ·exact ⟨_,_,h1⟩
theorem eY (w:World) (ad:Option Addr) (cp:Nat):HoldsO w (.slice ad 0 cp) []:=Or.inl ⟨ad,cp,rfl,rfl⟩
theorem nu (o:Op.Opt) (P:Prop) (h1:o.kind<1→Op.ok o=false→P) (h2:1≤o.kind→255<o.kind→Op.ok o=false→P) (h3:1≤o.kind→o.kind≤255→20<o.data.size→Op.ok o=false→P)
  (h4:1≤o.kind→o.kind≤255→o.data.size≤20→Op.ok o=true→P):P:=by
 by_cases a:1≤o.kind
 ·by_cases b:o.kind≤255
  ·by_cases c:o.data.size≤20
   ·exact h4 a b c (decide_eq_true ⟨a,b,c⟩)
   ·exact h3 a b (by omega) (decide_eq_false (by omega))
  ·exact h2 a (by omega) (decide_eq_false (by omega))
 ·exact h1 (by omega) (decide_eq_false (by omega))
theorem il {F:List Op.Opt} {k:Nat} (hk:k<F.length) (h:Op.ok F[k]=false):Op.right F=false:=by
 rw [← Bool.not_eq_true];intro hr;have:=Op.right_all hr F[k] (List.getElem_mem hk)
 rw [h] at this;cases this
theorem iU {F:List Op.Opt} (hl:F.length≤20) (h:∀ k (hk:k<F.length),Op.ok F[k]=true):Op.right F=true:=by
 refine Op.right_mk hl fun o ho=>?_
 obtain ⟨k,hk,rfl⟩:=List.getElem_of_mem ho;exact h k hk
theorem iV {F:List Op.Opt} (hl:20<F.length):Op.right F=false:=by
 rw [← Bool.not_eq_true];intro hr;have:=Op.right_len hr
 omega
theorem iW (ad:Option Addr) (cp:Nat) (w:World):Calls prog 13 #[.slice ad 0 cp] w fun e w'=>e=.returned (.bool true)∧Below w.heap.size w w':=by
 go_enter func13,ntmps13
 go_wp2_with fail
 go_loopw [10] (fun y wr=>y=.int .i64 0∧wr=w) (fun _ _=>0)
 case atStart=>exact ⟨rfl,rfl⟩
 case round =>
  obtain ⟨rfl,rfl⟩:=hrel;go_wp2
  go_ret
  exact ⟨rfl,zC _ _⟩
theorem iX (g cp:Nat) (F:List Op.Opt) (cur:Array Value) (w:World) (hm:F.length≤maxLen) (h1:w.heap[g]?=some (.cells cur 27)) (a1:∀ j,j<F.length*2→cur[j]?=(aj F)[j]?) :
  Calls prog 13 #[.slice (some ⟨g,0,none⟩) F.length cp] w fun e w'=>e=.returned (.bool (Op.right F))∧Below w.heap.size w w':=by
 unfold maxLen at hm;have hl1:g<w.heap.size:=(ge.1 h1).1;obtain ⟨n,hn⟩:∃ n,F.length=n:=⟨_,rfl⟩;by_cases h20:20<n
 ·have d0:(20:Int)<(n:Int):=by omega
  rw [iV (by omega),hn];go_enter func13,ntmps13
  go_wp2
  go_ret
  exact ⟨rfl,zC _ _⟩
 ·have d0:¬ ((20:Int)<(n:Int)):=by omega
  have HA:Hid (∀ i (hi:i<n),cur[i*2]?=some (.int .i64 (F[i]'(by omega)).kind)∧cur[i*2+1]?=some (.string (F[i]'(by omega)).data)):=by
   refine aa fun i hi=>?_
   have q:=bW F i (F[i]'(by omega)) (List.getElem?_eq_getElem (by omega));exact ⟨(a1 _ (by omega)).trans q.1,(a1 _ (by omega)).trans q.2⟩
  have HT:Hid ((∀ k (hk:k<n),Op.ok (F[k]'(by omega))=true)→Op.right F=true):=aa fun h=>iU (by omega) fun k hk=>h k (by omega)
  have HF:Hid (∀ k (hk:k<n),Op.ok (F[k]'(by omega))=false→Op.right F=false):=aa fun k hk h=>il (by omega) h
  rw [hn];clear a1 hm;generalize Op.right F=RT at *;go_enter func13,ntmps13
  go_wp2_with fail
  go_loopw [10] (fun y wr=>∃ (i:Nat),i≤n∧y=.int .i64 i∧(∀ k (hk:k<i) (hkn:k<n),Op.ok (F[k]'(by omega))=true)∧Below w.heap.size w wr) (fun y _=>n - (intOf y).toNat)
  case atStart=>exact ⟨0,Nat.zero_le _,rfl,fun k hk=>by omega,zC _ _⟩
  case round =>
   obtain ⟨i,hi,rfl,hall,hb⟩:=hrel;have hbs:=hb.size;by_cases hlt:i<n
   ·have d1:(i:Int)<(n:Int):=by omega
    obtain ⟨q1,q2⟩:=uh HA i hlt;have e1:=(hb.block g hl1).trans h1;have hf:=uh HF i hlt;have hall2:Op.ok (F[i]'(by omega))=true→∀ k (hk:k<i+1) (hkn:k<n),Op.ok (F[k]'(by omega))=true:=by
     intro h k hk hkn;rcases Nat.lt_or_ge k i with hk2 | hk2
     ·exact hall k hk2 hkn
     ·have:k=i:=by omega
      subst this;exact h
    generalize hO:F[i]'(by omega)=o at *;have k0:wr.cell? ⟨g,i*2,none⟩=some (.int .i64 o.kind):=by rw [cr e1];exact q1
    have k1:wr.cell? ⟨g,i*2+1,none⟩=some (.string o.data):=by rw [cr e1];exact q2
    have HAL:=aa hall2;have HFF:=aa hf;have C:=aa fun v=>ra o.kind v
    obtain ⟨kd,dt⟩:=o;dsimp only at k0 k1 C;clear q1 q2 e1 hall hall2 hf hO HA HT HF h1;refine nu ⟨kd,dt⟩ _ (fun a r=>?_) (fun a b r=>?_) (fun a b c r=>?_) (fun a b c r=>?_);all_goals dsimp only at *
    ·have f1:decide (kd<1)=true:=decide_eq_true a;have hR:=uh HFF r;subst hR;clear HFF HAL r a;go_wp2
     go_ret
     exact ⟨rfl,hb.alloc hbs _⟩
    ·have f1:decide (kd<1)=false:=decide_eq_false (by omega);have hR:=uh HFF r;subst hR;rw [show (decide (0≤kd) && decide (kd≤255))=false by simp;omega] at C;clear HFF HAL r a b;go_wp2_with (first | (go_at_call 25;refine (uh C _).mono ?_;rintro e w2 ⟨rfl,rfl⟩))
     go_ret
     exact ⟨rfl,hb.alloc hbs _⟩
    ·have f1:decide (kd<1)=false:=decide_eq_false (by omega);have f2:decide ((20:Int)<(dt.size:Int))=true:=decide_eq_true (by omega);have hR:=uh HFF r;subst hR;rw [show (decide (0≤kd) && decide (kd≤255))=true by simp;omega] at C;clear HFF HAL r a b c;go_wp2_with (first | (go_at_call 25;refine (uh C _).mono ?_;rintro e w2 ⟨rfl,rfl⟩))
     go_ret
     exact ⟨rfl,hb.alloc hbs _⟩
    ·have f1:decide (kd<1)=false:=decide_eq_false (by omega);have f2:decide ((20:Int)<(dt.size:Int))=false:=decide_eq_false (by omega);have hR:=uh HAL r;have HR:=aa hR;rw [show (decide (0≤kd) && decide (kd≤255))=true by simp;omega] at C;clear HFF HAL r a b c hR;go_wp2_with (first | (go_at_call 25;refine (uh C _).mono ?_;rintro e w2 ⟨rfl,rfl⟩))
     go_roundw
     case rel=>exact ⟨i+1,by omega,by go_num,uh HR,hb.alloc hbs _⟩
     case measure=>simp [intOf];omega
   ·have e:i=n:=by omega
    subst e;have d1:¬ ((i:Int)<(i:Int)):=by omega
    have hR:=uh HT fun k hk=>hall k hk hk
    subst hR;go_wp2
    go_ret
    exact ⟨rfl,hb⟩
theorem cq (v:Value) (F:List Op.Opt) (w:World) (hm:F.length≤maxLen) (h:HoldsO w v F) :
  Calls prog 13 #[v] w fun e w'=>e=.returned (.bool (Op.right F))∧Below w.heap.size w w':=by
 rcases h with ⟨ad,cp,rfl,rfl⟩ | ⟨g,cp,cur,rfl,h2,_,h4⟩
 ·exact iW ad cp w
 ·exact iX g cp F cur w hm h2 h4
end Go.Proofs.YtjebigodbnefiaaGreatDoor
namespace Go.Proofs.YtjebigodbnefiaaGreatDoor
open Go.Proofs.Tryz
def bN (k:Int):Option Nat:=if k=1 then some 2 else if k=2 then some 4 else if k=5 then some 4 else if k=7 then some 0 else if k=8 then some 0 else if k=9 then some 1 else none
theorem i8 {k:Int} {s:Nat} (h:bN k=some s):s≤4:=by
 unfold bN at h;repeat' split at h
 all_goals first | (cases h;omega) | (cases h)
end Go.Proofs.YtjebigodbnefiaaGreatDoor
namespace Go.Proofs.YtjebigodbnefiaaGreatDoor
open Go.RowKit Go.Proofs.Tryz
def em:List ByteArray:=[co [98,121,116,101,115],co [100,111],co [102,114,97,109,101],co [104,101,97,114],co [108,105,110,101],co [116,105,99,107]]
theorem zp (w:World):Calls prog 92 #[] w fun e w'=>e=.returned (.slice (some ⟨w.heap.size,0,none⟩) 6 6)∧w'=w.alloc (.cells (em.map Value.string).toArray 9):=by
 go_enter func92,ntmps92
 go_wp2
 go_ret
 exact ⟨rfl,rfl⟩
def MxT (w:World):Prop:=∃ m:Int,w.cell? ⟨4,0,none⟩=some (.int .i64 m)
theorem Bj (s:ByteArray) (w:World) (hs:s.size≤8000) (hm:MxT w):Calls prog 39 #[.string s,.string ⟨#[10]⟩] w fun e w'=>e=.returned (.tuple #[.string ⟨(Lib.cut s.data.toList [10]).1.toArray⟩,.string ⟨(Lib.cut s.data.toList [10]).2.1.toArray⟩,.bool (Lib.cut s.data.toList [10]).2.2])∧∃ n,w'=w.drewN n:=by
 obtain ⟨m,hm⟩:=hm;exact Any.strings_Cut Tryz.laysDsk145 s ⟨#[10]⟩ m w (by omega) hm
theorem zq (s:ByteArray) (w:World) (hs:s.size≤8000) (hm:MxT w):Calls prog 81 #[.string s,.string ⟨#[32]⟩] w fun e w'=>e=.returned (.slice (some ⟨w.heap.size,0,none⟩) (Lib.countB s ⟨#[32]⟩ + 1) (Lib.countB s ⟨#[32]⟩ + 1))∧w'=w.alloc (.cells ((Lib.splitB ⟨#[32]⟩ 0 (Lib.countB s ⟨#[32]⟩) s).map Value.string).toArray 9):=by
 obtain ⟨m,hm⟩:=hm;exact Any.strings_Split Tryz.laysDsk146 (by kernel_rfl) s ⟨#[32]⟩ m w (by omega) hm (by decide)
theorem Av (b n c:Nat) (zs:List ByteArray) (x:ByteArray) (w:World) (hn:n=zs.length) (hbig:n≤9223372036854775807) (h:w.heap[b]?=some (.cells (zs.map Value.string).toArray 9)) :
  Calls prog 91 #[.slice (some ⟨b,0,none⟩) n c,.string x] w fun e w'=>e=.returned (.bool (Lib.containsS zs x))∧w'=w:=by
 subst hn;have:=Any.slices_Contains_string Tryz.laysDsk110 b 0 zs.length c zs x w (zD _) hbig (fun j hj=>by
  rw [Nat.zero_add,cr h];simp [hj,List.getD_eq_getElem?_getD])
 rw [List.take_length] at this;exact this
def PwT (w : World) : Prop := Lib.TabIs prog w "internal/strconv.uint64pow10" .u64 Lib.pow10Tab
def bT (n:Int):ByteArray:=⟨(Lib.itoa n).toArray⟩
theorem mm (n:Int) (w:World) (h0:-9223372036854775808≤n) (h1:n≤9223372036854775807) (hT:PwT w) :
  Calls prog 112 #[.int .i64 n,.int .i64 10] w fun e w'=>e=.returned (.string (bT n))∧Below w.heap.size w w':=by
 refine (Any.strconv_FormatInt_10 Tryz.laysDsk173 n h0 h1 w hT).mono ?_;rintro e w' ⟨rfl,k,os,rfl⟩;refine ⟨rfl,rfl,rfl,rfl,?_,fun b hb=>?_⟩
 ·show w.heap.size≤(w.heap ++ os).size
  rw [Array.size_append];exact Nat.le_add_right _ _
 ·show (w.heap ++ os)[b]?=w.heap[b]?
  exact Array.getElem?_append_left hb
def fe (t:ByteArray):ByteArray:=if t.toList.isEmpty then ⟨#[45]⟩ else t
theorem rg (t:ByteArray) (w:World):Calls prog 93 #[.string t] w fun e w'=>e=.returned (.string (fe t))∧w'=w:=by
 unfold fe;cases h:t.toList.isEmpty
 ·go_enter func93,ntmps93
  go_wp2
  go_ret
  exact ⟨rfl,rfl⟩
 ·go_enter func93,ntmps93
  go_wp2
  go_ret
  exact ⟨rfl,rfl⟩
end Go.Proofs.YtjebigodbnefiaaGreatDoor
namespace Go.Proofs.YtjebigodbnefiaaGreatDoor
open Go.Proofs.Tryz
namespace Fcs
def step (r s:Nat):Nat:=if s % 2=1 then (s / 2) ^^^ r else s / 2
def stp (r:Nat):Nat→Nat→Nat
 | 0,s=>s
 | k+1,s=>step r (stp r k s)
def sumL (r s:Nat) (l:List UInt8):Nat:=l.foldl (fun s b=>stp r 8 (s ^^^ b.toNat)) s
theorem step_eq (r s:Nat):step r s=(s / 2) ^^^ (if s % 2=1 then r else 0):=by
 unfold step;split<;>simp
theorem xor_half (a b:Nat):(a ^^^ b) / 2=(a / 2) ^^^ (b / 2):=by
 have:=Nat.shiftRight_xor_distrib (a:=a) (b:=b) (i:=1)
 simpa [Nat.shiftRight_eq_div_pow] using this
theorem xor_div256 (a b:Nat):(a ^^^ b) / 256=(a / 256) ^^^ (b / 256):=by
 have:=Nat.shiftRight_xor_distrib (a:=a) (b:=b) (i:=8)
 simpa [Nat.shiftRight_eq_div_pow] using this
theorem xor_mod256 (a b:Nat):(a ^^^ b) % 256=(a % 256) ^^^ (b % 256):=by
 have:=Nat.xor_mod_two_pow (a:=a) (b:=b) (n:=8)
 simpa using this
theorem xor_odd (a b:Nat):(a ^^^ b) % 2=(a+b) % 2:=by
 have h:=Nat.xor_mod_two_pow (a:=a) (b:=b) (n:=1);rw [Nat.pow_one] at h;rw [h];rcases Nat.mod_two_eq_zero_or_one a with ha | ha<;>rcases Nat.mod_two_eq_zero_or_one b with hb | hb<;>rw [ha,hb,Nat.add_mod,ha,hb]<;>decide
theorem step_even (r a b:Nat):step r ((2*a) ^^^ b)=a ^^^ step r b:=by
 rw [step_eq,step_eq,xor_half,xor_odd];have e1:2*a / 2=a:=by omega
 have e2:(2*a+b) % 2=b % 2:=by omega
 rw [e1,e2,Nat.xor_assoc]
theorem stp_high (r:Nat):∀ (k a b:Nat),stp r k ((2 ^ k*a) ^^^ b)=a ^^^ stp r k b
 | 0,a,b=>by simp [stp]
 | k+1,a,b=>by
  have e:2 ^ (k+1)*a=2 ^ k*(2*a):=by rw [Nat.pow_succ,Nat.mul_assoc]
  rw [stp,e,stp_high r k (2*a) b,step_even,stp]
theorem split256 (s:Nat):(2 ^ 8*(s / 256)) ^^^ (s % 256)=s:=by
 apply Nat.eq_of_testBit_eq
 intro i;rw [Nat.testBit_xor,Nat.testBit_two_pow_mul];rw [show s % 256=s % 2 ^ 8 from rfl,show s / 256=s / 2 ^ 8 from rfl,Nat.testBit_mod_two_pow,Nat.testBit_div_two_pow];by_cases h:8≤i
 ·have:¬ i<8:=by omega
  simp [h,this]
 ·have:i<8:=by omega
  simp [h,this]
theorem stp8 (r s:Nat):stp r 8 s=(s / 256) ^^^ stp r 8 (s % 256):=by
 have:=stp_high r 8 (s / 256) (s % 256)
 rw [split256] at this;exact this
theorem byte_div (b:Nat) (h:b<256):b / 256=0:=by omega
theorem table_step (r s b:Nat) (h:b<256):(s / 256) ^^^ stp r 8 ((s % 256) ^^^ b)=stp r 8 (s ^^^ b):=by
 rw [stp8 r (s ^^^ b),xor_div256,xor_mod256,byte_div b h,Nat.mod_eq_of_lt h,Nat.xor_zero]
theorem step_lt {n r s:Nat} (hr:r<2 ^ n) (hs:s<2 ^ n):step r s<2 ^ n:=by
 rw [step_eq];refine Nat.xor_lt_two_pow (by omega) ?_;split
 ·exact hr
 ·exact Nat.two_pow_pos n
theorem stp_lt {n r s:Nat} (hr:r<2 ^ n) (hs:s<2 ^ n):∀ k,stp r k s<2 ^ n
 | 0=>hs
 | k+1=>step_lt hr (stp_lt hr hs k)
theorem byte_lt_pow {n:Nat} (hn:8≤n) {b:Nat} (h:b<256):b<2 ^ n :=
 Nat.lt_of_lt_of_le h (Nat.pow_le_pow_right (n:=2) (by decide) hn)
theorem sumL_lt {n r:Nat} (hn:8≤n) (hr:r<2 ^ n):∀ (l:List UInt8) (s:Nat),s<2 ^ n→sumL r s l<2 ^ n
 | [],_,hs=>hs
 | b :: l,_,hs=>sumL_lt hn hr l _ (stp_lt hr (Nat.xor_lt_two_pow hs (byte_lt_pow hn b.toNat_lt)) 8)
theorem sumL_snoc (r s:Nat) (l:List UInt8) (b:UInt8):sumL r s (l ++ [b])=stp r 8 (sumL r s l ^^^ b.toNat):=by
 simp [sumL,List.foldl_append]
end Fcs
end Go.Proofs.YtjebigodbnefiaaGreatDoor
namespace Go.Proofs.YtjebigodbnefiaaGreatDoor.Hd
def mapped (a:Nat) (c:UInt8):Bool:=decide (c.toNat<32) && (a / 2 ^ c.toNat % 2 == 1)
def odd (a:Nat) (c:UInt8):Bool:=c == 0x7e || c == 0x7d || mapped a c
def stuff1 (a:Nat) (c:UInt8):List UInt8:=if odd a c then [0x7d,c ^^^ 0x20] else [c]
def stuff (a:Nat) (l:List UInt8):List UInt8:=l.flatMap (stuff1 a)
structure Fd where
 kind:Nat
 text:List UInt8
 deriving DecidableEq
structure St where
 inn:Bool
 esc:Bool
 long:Bool
 held:List UInt8
 deriving DecidableEq
theorem stuff_snoc (a:Nat) (l:List UInt8) (c:UInt8):stuff a (l ++ [c])=stuff a l ++ stuff1 a c:=by simp [stuff,List.flatMap_append]
theorem stuff_cons (a:Nat) (l:List UInt8) (c:UInt8):stuff a (c :: l)=stuff1 a c ++ stuff a l:=by simp [stuff]
theorem stuff1_le (a:Nat) (c:UInt8):(stuff1 a c).length≤2:=by unfold stuff1;split<;>simp
theorem stuff_len (a:Nat) (l:List UInt8):(stuff a l).length≤2*l.length:=by
 induction l with
 | nil=>simp [stuff]
 | cons c l ih =>
  rw [stuff_cons,List.length_append];have:=stuff1_le a c
  simp only [List.length_cons];omega
structure Gd where
 good:List UInt8→Bool
 k:Nat
def endOf (g:Gd) (s:St):List Fd :=
 if !s.inn then []
 else if s.esc then [⟨4,[]⟩]
 else if s.held=[]∧s.long=false then []
 else if s.long then [⟨5,[]⟩]
 else if s.held.length≤g.k then [⟨3,[]⟩]
 else if !g.good s.held then [⟨2,[]⟩]
 else [⟨1,s.held.take (s.held.length - g.k)⟩]
def fnd (g:Gd) (s:St) (c:UInt8):List Fd:=if c=0x7e then endOf g s else []
def put (s:St) (c:UInt8):St:=if 304≤s.held.length then { s with esc:=false,long:=true } else { s with esc:=false,held:=s.held ++ [c] }
def nxt (a:Nat) (s:St) (c:UInt8):St :=
 if c=0x7e then ⟨true,false,false,[]⟩
 else if !s.inn || mapped a c then s
 else if c=0x7d∧s.esc=false then { s with esc:=true }
 else put s (if s.esc then c ^^^ 0x20 else c)
def run (a:Nat) (s:St) (l:List UInt8):St:=l.foldl (nxt a) s
def finds (g:Gd) (a:Nat):St→List UInt8→List Fd
 | _,[]=>[]
 | s,c :: l=>fnd g s c ++ finds g a (nxt a s c) l
def Right (s:St):Prop:=s.held.length≤304∧(s.inn=false→s.esc=false∧s.long=false∧s.held=[])
theorem run_snoc (a:Nat) (s:St) (l:List UInt8) (c:UInt8):run a s (l ++ [c])=nxt a (run a s l) c:=by simp [run]
theorem finds_append (g:Gd) (a:Nat) (s:St) (l m:List UInt8):finds g a s (l ++ m)=finds g a s l ++ finds g a (run a s l) m:=by
 induction l generalizing s with
 | nil=>rfl
 | cons c l ih=>simp only [List.cons_append,finds,ih,List.append_assoc];rfl
theorem finds_snoc (g:Gd) (a:Nat) (s:St) (l:List UInt8) (c:UInt8):finds g a s (l ++ [c])=finds g a s l ++ fnd g (run a s l) c:=by
 rw [finds_append];simp [finds]
theorem nxt_right (a:Nat) (s:St) (c:UInt8) (h:Right s):Right (nxt a s c):=by
 obtain ⟨h1,h2⟩:=h;unfold nxt;split
 ·exact ⟨by simp,by simp⟩
 ·split
  ·exact ⟨h1,h2⟩
  ·rename_i hne hin
   have hi:s.inn=true:=by
    simp only [Bool.or_eq_true,not_or,Bool.not_eq_true',Bool.not_eq_false] at hin;exact hin.1
   split
   ·exact ⟨h1,fun k=>by simp [hi] at k⟩
   ·unfold put;split
    ·exact ⟨h1,fun k=>by simp [hi] at k⟩
    ·refine ⟨by simp;omega,fun k=>by simp [hi] at k⟩
theorem run_right (a:Nat) (l:List UInt8) (s:St) (h:Right s):Right (run a s l):=by
 induction l generalizing s with
 | nil=>exact h
 | cons c l ih=>exact ih _ (nxt_right a s c h)
theorem endOf_le (g:Gd) (s:St):(endOf g s).length≤1:=by
 unfold endOf;repeat' split
 all_goals simp
theorem take_more (n:Nat) (F x:List Fd) (hx:x.length≤1):(F ++ x).take n=if (F.take n).length<n then F.take n ++ x else F.take n:=by
 by_cases h:F.length<n
 ·rw [if_pos (by rw [List.length_take];omega),List.take_of_length_le (by simp;omega),List.take_of_length_le (by omega)]
 ·rw [if_neg (by rw [List.length_take];omega),List.take_append_of_le_length (by omega)]
def frame (a:Nat) (u:List UInt8):List UInt8:=[0x7e] ++ stuff a u ++ [0x7e]
end Go.Proofs.YtjebigodbnefiaaGreatDoor.Hd
namespace Go.Proofs.YtjebigodbnefiaaGreatDoor
open Go.RowKit Go.Proofs.Tryz
def fp (x:Int):Bool:=decide (0≤x) && decide (x≤4294967295)
theorem lU {x:Int} (h:fp x=true):∃ a:Nat,x=(a:Int)∧a<4294967296:=by
 simp only [fp,Bool.and_eq_true,decide_eq_true_eq] at h;obtain ⟨a,ha⟩:=Int.eq_ofNat_of_zero_le h.1;exact ⟨a,ha,by omega⟩
theorem lV {a:Nat} (h:a<4294967296):fp (a:Int)=true:=by
 simp only [fp,Bool.and_eq_true,decide_eq_true_eq];omega
theorem oB (x:Int) (w:World):Calls prog 19 #[.int .i64 x] w fun e w'=>e=.returned (.bool (fp x))∧w'=w:=by
 by_cases h1:0≤x
 ·by_cases h2:x≤4294967295
  ·have d1:decide ((0:Int)≤x)=true:=decide_eq_true h1;have d2:decide (x≤4294967295)=true:=decide_eq_true h2;rw [show fp x=true by simp [fp,h1,h2]];go_enter func19,ntmps19
   go_wp2
   go_ret
   exact ⟨rfl,rfl⟩
  ·have d1:decide ((0:Int)≤x)=true:=decide_eq_true h1;have d2:decide (x≤4294967295)=false:=decide_eq_false h2;rw [show fp x=false by simp [fp,h1,h2]];go_enter func19,ntmps19
   go_wp2
   go_ret
   exact ⟨rfl,rfl⟩
 ·have d1:decide ((0:Int)≤x)=false:=decide_eq_false h1;rw [show fp x=false by simp [fp,h1]];go_enter func19,ntmps19
  go_wp2
  go_ret
  exact ⟨rfl,rfl⟩
theorem xZ (a n:Nat) (ha:a<4294967296):(bits .and .i64 ((a:Int) / 2 ^ n) 1 == 1)=(a / 2 ^ n % 2 == 1):=by
 have hlt:a / 2 ^ n<4294967296:=Nat.lt_of_le_of_lt (Nat.div_le_self _ _) ha;have h:=kP (a / 2 ^ n) 1 (by omega) (by decide);rw [nat_mask1] at h;have e:((a:Int) / 2 ^ n)=((a / 2 ^ n:Nat):Int):=by simp
 rw [e];have h':bits .and .i64 ((a / 2 ^ n:Nat):Int) 1=((a / 2 ^ n % 2:Nat):Int):=h;rw [h'];rcases Nat.mod_two_eq_zero_or_one (a / 2 ^ n) with h0 | h0<;>rw [h0]<;>rfl
theorem ij (a:Nat) (c:UInt8) (B:Nat) (w:World) (ha:a<4294967296) (hB:w.cell? ⟨B,0,none⟩=some (.int .i64 a)) :
  Calls prog 75 #[.int .u8 c.toNat,.pointer (some ⟨B,0,none⟩)] w fun e w'=>e=.returned (.bool (Hd.mapped a c))∧w'=w:=by
 have hc:=c.toNat_lt;unfold Hd.mapped;generalize c.toNat=n at *;by_cases h1:n<32
 ·have d1:decide ((n:Int)<32)=true:=decide_eq_true (by omega);rw [decide_eq_true h1,Bool.true_and];go_enter func75,ntmps75
  go_wp2
  go_ret
  exact ⟨tT (xZ a n ha),rfl⟩
 ·have d1:decide ((n:Int)<32)=false:=decide_eq_false (by omega);rw [decide_eq_false h1,Bool.false_and];go_enter func75,ntmps75
  go_wp2
  go_ret
  exact ⟨rfl,rfl⟩
theorem nA (a:Nat) (w:World) :
  Calls prog 33 #[.int .i64 a] w fun e w'=>e=.returned (.func (.func 75) #[] #[.pointer (some ⟨w.heap.size,0,none⟩)])∧w'=w.alloc (.cells #[.int .i64 a] 2):=by
 have hmf:∀ (fn:Fn) (first cap:Array Value) (w:World),(Instr.makeFunc fn first cap).run prog w=.ok (.func fn first cap) w:=fun _ _ _ _=>rfl
 go_enter func33,ntmps33
 go_wp2
 go_ret
 exact ⟨rfl,rfl⟩
def fG (x:Int) (inn esc long:Bool) (t:ByteArray):Bool:=fp x && (decide (t.size≤304) && (inn || (!esc && (!long && decide (t.size=0)))))
theorem lp {t:ByteArray} (h:t.size=0):t=⟨#[]⟩:=by
 obtain ⟨a⟩:=t;congr
 exact Array.eq_empty_of_size_eq_zero h
theorem tf {t:ByteArray} (h:¬ t.size=0):t.toList.isEmpty=false:=by
 have hl:t.toList=t.data.toList:=ByteArray.toList_eq t;rw [hl,List.isEmpty_eq_false_iff];intro e;apply h
 have:t.data.toList.length=0:=by rw [e];rfl
 simpa using this
theorem lY (wide:Bool) (x:Int) (inn esc long:Bool) (t:ByteArray) (w:World) (ht:t.size≤maxLen) :
  Calls prog 122 #[.agg #[.bool wide,.int .i64 x,.bool inn,.bool esc,.bool long,.string t]] w fun e w'=>e=.returned (.bool (fG x inn esc long t))∧Below w.heap.size w w':=by
 unfold maxLen at ht;have C:=aa (oB x);unfold fG;generalize fp x=ok at *;by_cases hs:t.size≤304
 ·have d1:¬ ((304:Int)<(t.size:Int)):=by omega
  by_cases h0:t.size=0
  ·obtain rfl:=lp h0;cases ok<;>cases inn<;>cases esc<;>cases long
   all_goals
    go_enter func122,ntmps122
    go_wp2_with (first
     | (go_at_call 19;refine (uh C _).mono ?_;rintro e w1 ⟨rfl,rfl⟩))
    go_ret
    exact ⟨rfl,(zC _ _).alloc (zD _) _⟩
  ·have d2:=tf h0;rw [decide_eq_true hs,decide_eq_false h0];cases ok<;>cases inn<;>cases esc<;>cases long
   all_goals
    go_enter func122,ntmps122
    go_wp2_with (first
     | (go_at_call 19;refine (uh C _).mono ?_;rintro e w1 ⟨rfl,rfl⟩))
    go_ret
    exact ⟨rfl,(zC _ _).alloc (zD _) _⟩
 ·have d1:(304:Int)<(t.size:Int):=by omega
  rw [decide_eq_false hs,Bool.false_and,Bool.and_false];cases ok
  all_goals
   go_enter func122,ntmps122
   go_wp2_with (first
    | (go_at_call 19;refine (uh C _).mono ?_;rintro e w1 ⟨rfl,rfl⟩))
   go_ret
   exact ⟨rfl,(zC _ _).alloc (zD _) _⟩
structure Touch (B:Nat) (w w':World):Prop where
 os:w'.os=w.os
 tape:w'.tape=w.tape
 output:w'.output=w.output
 size:w'.heap.size=w.heap.size
 block:∀ k,k≠B→w'.heap[k]?=w.heap[k]?
theorem Touch.refl (B:Nat) (w:World):Touch B w w:=⟨rfl,rfl,rfl,rfl,fun _ _=>rfl⟩
theorem Touch.trans {B:Nat} {a b c:World} (h:Touch B a b) (k:Touch B b c):Touch B a c :=
 ⟨k.os.trans h.os,k.tape.trans h.tape,k.output.trans h.output,k.size.trans h.size,fun i hi=>(k.block i hi).trans (h.block i hi)⟩
theorem Touch.drew {B:Nat} {a w:World} (h:Touch B a w):Touch B a w.drew:=⟨h.os,h.tape,h.output,h.size,h.block⟩
theorem Touch.setCell {B:Nat} {a w:World} (h:Touch B a w) (o:Nat) (v:Value):Touch B a (w.setCell ⟨B,o,none⟩ v):=by
 have hb:=(zC 0 w).setCell (p:=⟨B,o,none⟩) (Nat.zero_le _) v;exact ⟨hb.os.trans h.os,hb.tape.trans h.tape,hb.output.trans h.output,by
  rw [← h.size];simp [World.setCell];done,fun k hk=>(Below.heap_setCell w ⟨B,o,none⟩ v k hk).trans (h.block k hk)⟩
theorem Touch.below {B:Nat} {w w':World} (h:Touch B w w'):Below B w w' :=
 ⟨h.os,h.tape,h.output,by rw [h.size];exact zD _,fun k hk=>h.block k (by omega)⟩
def Dat (w:World) (B:Nat) (sl:Value) (n:Nat):Prop :=
 (∃ a cap,sl=.slice a n cap)∧∀ i,i<n→∃ (b o cap x:Nat),sl=.slice (some ⟨b,o,none⟩) n cap∧b<B∧w.cell? ⟨b,o+i,none⟩=some (.int .u8 x)∧x<256
theorem drawn (Y:Int) (most:Nat) (hY:0≤Y) (h1:1<most) (h2:most<4294967296):∃ r:Nat,wrap64 (Y.tmod (most:Int))=(r:Int)∧r<most:=by
 rw [Int.tmod_eq_emod_of_nonneg hY];have h3:0≤Y % (most:Int):=Int.emod_nonneg _ (by omega);have h4:Y % (most:Int)<most:=Int.emod_lt_of_pos _ (by omega);obtain ⟨r,hr⟩:=Int.eq_ofNat_of_zero_le h3;refine ⟨r,?_,by omega⟩;rw [hr];unfold wrap64;omega
theorem Dat.below {w w':World} {B:Nat} {sl:Value} {n:Nat} (h:Dat w B sl n) (hb:Below B w w'):Dat w' B sl n :=
 ⟨h.1,fun i hi=>by
  obtain ⟨b,o,cap,x,h1,h2,h3,h4⟩:=h.2 i hi;exact ⟨b,o,cap,x,h1,h2,by rw [← h3];exact hb.cell (p:=⟨b,o+i,none⟩) h2,h4⟩⟩
end Go.Proofs.YtjebigodbnefiaaGreatDoor
