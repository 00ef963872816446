/- Own Txt StrRow Ints Lies Opt Rules AskC Cfg NumH RepNum SizeK Row6 VerdC CfgArg RfW OpenCfg -/
import Derived.Test.YtjdgiimfpkideaaGreatDoorShW
import Derived.BigQuiet
import Derived.Deep.DeepCutAuto
import Derived.Lib.AppendStr
import Derived.Laws.EntriesVeiled
import Derived.Deep.WholeRow
import Derived.RangeFuncWrites
import Derived.RangeFuncCalls
import Derived.OrdersIn
import Derived.Lay
import Derived.MakeChecks
set_option maxHeartbeats 2000000
set_option maxRecDepth 100000
namespace Go.Proofs.YtjdgiimfpkideaaGreatDoor
open Go.RowKit Go.Proofs.Tryz
theorem ab {P:Program} {c:Code} {Q:Exit→Act→World→Prop} {a:Act} {W:World} (R:World→Prop) (hW:R W) (h:∀ v,R v→Code.wp P c Q a v):Code.wp P c Q a W:=h W hW
theorem iJ (xs:List Int):(strOfNums xs).size=xs.length:=by simp [strOfNums,ByteArray.size]
theorem kM {w:World} {base:Nat} {v:Value} {n:Nat} {xs:List Int} (h:w.ownsRow base 5 1 v n (xs.map (Value.int .u8))) :
  (convert 22 9 v).run prog w=.ok (.string (strOfNums xs)) w:=by
 have hl:xs.length=n:=by have:=h.1;simpa using this
 rcases h.2 with ⟨rfl,rfl⟩ | ⟨g,cap,cur,rfl,h2,h3,h4,h5,h6,h7⟩
 ·rw [run_convert_bytes_nil (P:=prog) w 22 5 underlying22 underlying5 0 0 9 underlying9];have:xs=[]:=List.eq_nil_of_length_eq_zero hl
  subst this;rfl
 ·refine run_convert_bytes_arg (P:=prog) w 22 5 underlying22 underlying5 g 0 n cap xs hl (fun i hi=>?_) 9 underlying9;rw [cell_of_row w g (0+i) cur _ (0,0) h3];have e1:(cur.toList.take (n*1))[i]?=(xs.map (Value.int .u8))[i]?:=by rw [h7]
  rw [List.getElem?_take,if_pos (by omega),Array.getElem?_toList] at e1;rw [Nat.zero_add,e1];simp [List.getD,List.getElem?_eq_getElem (show i<xs.length by omega)]
theorem mn:∃ i,prog.info? 5=some i∧i.zero=some (.int .u8 0)∧i.size=1∧i.bytes=1:=by
 have h:(prog.info? 5).map (fun i=>(i.zero,i.size,i.bytes))=some (some (.int .u8 0),1,1):=by kernel_rfl
 obtain ⟨i,hi,hzz⟩:=Option.map_eq_some_iff.1 h;simp only [Prod.mk.injEq] at hzz;exact ⟨i,hi,hzz.1,hzz.2.1,hzz.2.2⟩
def co (l:List UInt8):ByteArray:=⟨l.toArray⟩
def mp (l:List UInt8):List Int:=l.map fun c=>(c.toNat:Int)
def dg (l:List UInt8):List Value:=(mp l).map (Value.int .u8)
theorem oV (l:List UInt8):strOfNums (mp l)=co l:=by
 unfold strOfNums mp co;rw [List.map_map];congr 2
 conv=>rhs;rw [← List.map_id l]
 apply List.map_congr_left
 intro x _;simp
theorem oW (t:ByteArray):co t.data.toList=t:=rfl
theorem kN (l:List UInt8):(co l).data.toList=l:=rfl
theorem eJ (l:List UInt8):(co l).size=l.length:=by simp [co,ByteArray.size]
theorem oX (l:List UInt8):(dg l).length=l.length:=by simp [dg,mp]
theorem fo (l m:List UInt8):dg (l ++ m)=dg l ++ dg m:=by simp [dg,mp]
theorem kO (c d:UInt8):dg [c,d]=[.int .u8 c.toNat,.int .u8 d.toNat]:=rfl
theorem vC {c d:UInt8} (h:c≠d):((c.toNat:Int) == (d.toNat:Int))=false:=by
 refine beq_eq_false_iff_ne.2 fun e=>h (UInt8.toNat_inj.1 (by omega))
theorem eK {w:World} {base:Nat} {v:Value} {n:Nat} {l:List UInt8} (h:w.ownsRow base 5 1 v n (dg l)) :
  (convert 22 9 v).run prog w=.ok (.string (co l)) w:=by
 rw [← oV];exact kM h
theorem af {w:World} {base:Nat} {e:TypeId} {size:Nat} {v:Value} {n:Nat} {xs:List Value} (h:w.ownsRow base e size v n xs):∃ ad cp,v=.slice ad n cp:=by
 rcases h.2 with ⟨rfl,rfl⟩ | ⟨g,cap,cur,rfl,_⟩
 ·exact ⟨_,_,rfl⟩
 ·exact ⟨_,_,rfl⟩
theorem aX {w:World} {B:Nat} {cs:Array Value} {T:TypeId} (h:w.heap[B]?=some (.cells cs T)) (o:Nat):w.frozen? ⟨B,o,none⟩=false:=by simp [World.frozen?,h]
def a_ (l:List ByteArray):List Value:=l.map Value.string
theorem mq (l:List ByteArray):(a_ l).length=l.length:=by simp [a_]
theorem fT (l r:List ByteArray):a_ (l ++ r)=a_ l ++ a_ r:=by simp [a_]
theorem iK (l:List ByteArray) (i:Nat) (t:ByteArray) (h:l[i]?=some t):(a_ l)[i]?=some (.string t):=by simp [a_,h]
theorem tn:∃ i,prog.info? 9=some i∧i.zero=some (.string ⟨#[]⟩)∧i.size=1∧i.bytes=16:=by
 have h:(prog.info? 9).map (fun i=>(i.zero,i.size,i.bytes))=some (some (.string ⟨#[]⟩),1,16):=by kernel_rfl
 obtain ⟨i,hi,hzz⟩:=Option.map_eq_some_iff.1 h;simp only [Prod.mk.injEq] at hzz;exact ⟨i,hi,hzz.1,hzz.2.1,hzz.2.2⟩
def HoldsT (w:World) (v:Value) (L:List ByteArray):Prop :=
 (∃ ad cp,v=.slice ad 0 cp∧L=[])∨∃ g cp cur,v=.slice (some ⟨g,0,none⟩) L.length cp∧w.heap[g]?=some (.cells cur 9)∧L.length≤cur.size∧∀ j,j<L.length→cur[j]?=(a_ L)[j]?
theorem HoldsT.own {w:World} {base:Nat} {v:Value} {L:List ByteArray} (h:w.ownsRow base 9 1 v L.length (a_ L)):HoldsT w v L:=by
 rcases h.2 with ⟨h1,h2⟩ | ⟨g,cap,cur,h1,_,h3,h4,_,h6,h7⟩
 ·exact Or.inl ⟨_,_,h1,List.eq_nil_of_length_eq_zero h2⟩
 ·refine Or.inr ⟨g,cap,cur,h1,h3,by rw [h6];omega,fun j hj=>?_⟩;rw [← h7,List.getElem?_take,if_pos (by omega),Array.getElem?_toList]
theorem HoldsT.below {n:Nat} {w w':World} {v:Value} {L:List ByteArray} (h:HoldsT w v L) (hb:Below n w w') (hn:n=w.heap.size):HoldsT w' v L:=by
 subst hn;exact h.imp id fun ⟨g,cp,cur,h1,h2,h3⟩=>⟨g,cp,cur,h1,(hb.block g (ge.1 h2).1).trans h2,h3⟩
theorem HoldsT.form {w:World} {v:Value} {L:List ByteArray} (h:HoldsT w v L):∃ ad cp,v=.slice ad L.length cp:=by
 rcases h with ⟨ad,cp,h1,h2⟩ | ⟨g,cp,cur,h1,_⟩
 ·exact ⟨ad,cp,by rw [h1,h2];rfl⟩
 ·exact ⟨_,_,h1⟩
theorem dw {wr:World} {ops:Array Oper} {rest:List Oper} {o:Oper} {a:Act} {Q:Exit→Act→World→Prop} (hgd:o.guard=none) (s x:Operand)
  (ho:o.op=.call { callee:=.builtin .append,args:=#[s,x],argTypes:=#[72,72] })
  (base:Nat) (v:Value) (L:List ByteArray) (n:Nat) (hn:L.length=n) (hs:a.eval s=v) (hown:wr.ownsRow base 9 1 v n (a_ L)) (t:ByteArray) (hx:a.eval x=.slice (some ⟨wr.heap.size,0,none⟩) 1 1) (hlen:n≤1000000) (hbase:base≤wr.heap.size)
  (h:∀ v' w',w'.ownsRow base 9 1 v' (n+1) (a_ (L ++ [t]))→(wr.alloc (.cells #[.string t] 9)).grownBy w' v.ownBlock→wpList prog ops Q rest (a.put o.dst v') w'):wpList prog ops Q (o :: rest) a (wr.alloc (.cells #[.string t] 9)):=by
 obtain ⟨i0,hi0,hz0,hz1,hz2⟩:=tn;refine wpList_append_own _ hgd s x 72 ho base 9 i0 _ 1 16 underlying72 hi0 hz0 hz1 hz2 rfl (by decide) v n (a_ L) hs (hown.alloc _) ⟨wr.heap.size,0,none⟩ 1 1 [.string t] hx rfl ?_ ?_ ?_ ?_ ?_ ?_
 ·intro i u hu;rw [Addr.add_lit,Nat.zero_add,World.cell?_alloc_at _ _ _ _ rfl,← hu];simp
 ·intro u hu;simp only [List.mem_cons,List.not_mem_nil,or_false] at hu;rw [hu];rfl
 ·unfold maxLen;omega
 ·omega
 ·simp;omega
 ·intro v' w2 hown2 hg2 _;refine h v' w2 ?_ hg2;rw [fT];exact hown2
theorem kP (a b:Nat) (ha:a<4294967296) (hb:b<4294967296):bits .and .i64 (a:Int) (b:Int)=((a &&& b:Nat):Int):=by
 have h3:a &&& b≤a:=Nat.and_le_left;show IntKind.i64.wrap ((BitVec.ofInt 64 (a:Int) &&& BitVec.ofInt 64 (b:Int)).toNat:Int)=_
 rw [BitVec.toNat_and,ofInt_u64 a (by omega),ofInt_u64 b (by omega),IntKind.wrap_i64];omega
theorem bC (t:ByteArray):t.data.toList.length=t.size:=by rw [Array.length_toList];rfl
def Lies (w:World) (B off:Nat) (l:List UInt8):Prop:=∀ i (h:i<l.length),w.cell? ⟨B,off+i,none⟩=some (.int .u8 l[i].toNat)
theorem Lies.below {w w':World} {B off N:Nat} {l:List UInt8} (h:Lies w B off l) (hb:Below N w w') (hB:B<N):Lies w' B off l :=
 fun i hi=>(hb.cell (p:=⟨B,off+i,none⟩) hB).trans (h i hi)
theorem Lies.drop {w:World} {B off:Nat} {l:List UInt8} (h:Lies w B off l) (n:Nat):Lies w B (off+n) (l.drop n):=fun i hi=>by
 rw [List.length_drop] at hi;rw [Nat.add_assoc,h (n+i) (by omega)];simp
theorem or8 (a b:Nat) (ha:a<256) (hb:b<256):bits .or .i64 ((a:Int)*256) (b:Int)=((256*a+b:Nat):Int):=by
 have h1:a*256 ||| b=a*2 ^ 8+b:=by
  rw [Nat.mul_comm,show (256:Nat)=2 ^ 8 from rfl,← Nat.two_pow_add_eq_or_of_lt (by omega),Nat.mul_comm]
 show IntKind.i64.wrap ((BitVec.ofInt 64 ((a:Int)*256) ||| BitVec.ofInt 64 (b:Int)).toNat:Int)=_
 rw [show (a:Int)*256=((a*256:Nat):Int) by omega,BitVec.toNat_or,ofInt_u64 (a*256) (by omega),ofInt_u64 b (by omega),h1,IntKind.wrap_i64];omega
def ax (l:List UInt8):Nat:=l.foldl (fun n c=>256*n+c.toNat) 0
theorem rL (B off cap:Nat) (l:List UInt8) (w:World) (hl2:l.length≤2) (hl:Lies w B off l) :
  Calls prog 158 #[.slice (some ⟨B,off,none⟩) l.length cap] w fun e w'=>e=.returned (.int .i64 (ax l:Nat))∧w'=w:=by
 go_enter func158,ntmps158
 go_wp2
 go_loop [3,8] (fun n i=>∃ (k:Nat),k≤l.length∧i=.int .i64 k∧n=.int .i64 (ax (l.take k):Nat)) (fun _ i=>l.length - (intOf i).toNat)
 case atStart=>exact ⟨0,Nat.zero_le _,rfl,rfl⟩
 case round =>
  obtain ⟨k,hk,rfl,rfl⟩:=hrel;by_cases hlt:k<l.length
  ·have hc:=hl k hlt;have HS:Hid (ax (l.take (k+1))=256*ax (l.take k)+l[k].toNat):=aa (by unfold ax;rw [List.take_succ_eq_append_getElem hlt,List.foldl_append];rfl);have hk2:k<2:=by omega
   have hn:ax (l.take k)<256:=by
    rcases l with _ | ⟨c,_ | ⟨d,r⟩⟩
    ·simp at hlt
    ·simp at hlt;subst hlt;simp [ax]
    ·have:=c.toNat_lt
     rcases Nat.lt_or_ge k 1 with h | h
     ·have hk0:k=0:=by omega
      subst hk0;simp [ax]
     ·have hk1:k=1:=by omega
      subst hk1;simpa [ax] using this
   have ho:=or8 (ax (l.take k)) l[k].toNat hn l[k].toNat_lt;have HW:Hid (wrap64 (l[k].toNat:Int)=(l[k].toNat:Int)):=aa (by have:=l[k].toNat_lt;unfold wrap64;omega);generalize ax (l.take k)=n at *;have d1:(k:Int)<(l.length:Int):=by omega
   clear hl;go_wp2
   go_round
   case rel=>exact ⟨k+1,by omega,by go_num,by rw [uh HW,ho,uh HS]⟩
   case measure=>simp [intOf];omega
  ·have HK:=aa (List.take_of_length_le (l:=l) (i:=k) (by omega));have d1:¬ ((k:Int)<(l.length:Int)):=by omega
   go_wp2
   go_ret
   exact ⟨by rw [uh HK];rfl,rfl⟩
theorem kT (t:ByteArray) (W:World):∃ cap W',(convert 9 22 (.string t)).run prog W=.ok (.slice (some ⟨W.heap.size,0,none⟩) t.data.toList.length cap) W'∧t.data.toList.length≤cap∧Lies W' W.heap.size 0 t.data.toList∧Below W.heap.size W W'∧W.heap.size<W'.heap.size:=by
 have h:=run_bytes_of_string (P:=prog) W 9 22 5 t underlying9 underlying22 underlying5;have hg:=grownCap_ge W t.size 0 5;refine ⟨_,_,by rw [bC];exact h,by rw [bC];omega,?_,(zC _ _).drew.alloc (zD _) _,by simp⟩;intro i hi;have hh:(W.drew.alloc (.cells (bytesRow t (grownCap W t.size 0 5)) 5 ((bytesRow t (grownCap W t.size 0 5)).size,(bytesRow t (grownCap W t.size 0 5)).size+1))).heap[W.heap.size]?=_:=zF W.drew _;rw [cr hh];have hi':i<t.size:=by rw [← bC];exact hi
 simp [bytesRow,Array.getElem?_append,hi']
theorem ow {w:World} {B off:Nat} {l:List UInt8} (h:Lies w B off l) {cap:Nat}:(convert 22 9 (.slice (some ⟨B,off,none⟩) l.length cap)).run prog w=.ok (.string (co l)) w :=
 run_convert_bytes_back (P:=prog) w 22 9 5 ⟨B,off,none⟩ cap l underlying22 underlying5 underlying9 (fun j hj=>by rw [Addr.add_lit];exact h j hj)
end Go.Proofs.YtjdgiimfpkideaaGreatDoor
namespace Go.Proofs.YtjdgiimfpkideaaGreatDoor.Op
structure Opt where
 kind:Int
 data:ByteArray
def ok (o:Opt):Bool:=decide (1≤o.kind∧o.kind≤255∧o.data.size≤20)
def right (l:List Opt):Bool:=decide (l.length≤20) && l.all ok
def one (o:Opt):List UInt8:=[UInt8.ofNat o.kind.toNat,UInt8.ofNat (o.data.size+2)] ++ o.data.data.toList
def bytes (l:List Opt):List UInt8:=l.flatMap one
def told (l:List Opt):List UInt8:=if right l=true then bytes l else []
def rd (l:List UInt8):Option (List Opt) :=
 match l with
 | []=>some []
 | [_]=>none
 | k :: n :: r=>if _h:n.toNat<2∨r.length+2<n.toNat then none else (rd (r.drop (n.toNat - 2))).map fun L=>⟨(k.toNat:Int),co (r.take (n.toNat - 2))⟩ :: L
termination_by l.length
decreasing_by simp;omega
def acc (out:List Opt) (l:List UInt8):Option (List Opt):=(rd l).bind fun L=>if right (out ++ L)=true then some (out ++ L) else none
theorem rd_nil:rd []=some []:=by rw [rd]
theorem rd_one (c:UInt8):rd [c]=none:=by rw [rd]
theorem rd_bad {k n:UInt8} {r:List UInt8} (h:n.toNat<2∨r.length+2<n.toNat):rd (k :: n :: r)=none:=by rw [rd,dif_pos h]
theorem rd_step {k n:UInt8} {r:List UInt8} (h:¬ (n.toNat<2∨r.length+2<n.toNat)):rd (k :: n :: r)=(rd (r.drop (n.toNat - 2))).map fun L=>⟨(k.toNat:Int),co (r.take (n.toNat - 2))⟩ :: L:=by rw [rd,dif_neg h]
theorem right_len {l:List Opt} (h:right l=true):l.length≤20:=by
 unfold right at h;rw [Bool.and_eq_true] at h;exact of_decide_eq_true h.1
theorem right_all {l:List Opt} (h:right l=true):∀ o ∈ l,ok o=true:=by
 unfold right at h;rw [Bool.and_eq_true] at h;exact List.all_eq_true.1 h.2
theorem right_mk {l:List Opt} (h1:l.length≤20) (h2:∀ o ∈ l,ok o=true):right l=true:=by
 unfold right;rw [Bool.and_eq_true];exact ⟨decide_eq_true h1,List.all_eq_true.2 h2⟩
theorem right_front {a b:List Opt} (h:right (a ++ b)=true):right a=true :=
 right_mk (by have:=right_len h;rw [List.length_append] at this;omega) fun o ho=>right_all h o (List.mem_append_left _ ho)
theorem acc_nil (out:List Opt):acc out []=if right out=true then some out else none:=by
 unfold acc;rw [rd_nil];simp
theorem acc_one (out:List Opt) (c:UInt8):acc out [c]=none:=by
 unfold acc;rw [rd_one];rfl
theorem acc_bad (out:List Opt) {k n:UInt8} {r:List UInt8} (h:n.toNat<2∨r.length+2<n.toNat):acc out (k :: n :: r)=none:=by
 unfold acc;rw [rd_bad h];rfl
theorem acc_step (out:List Opt) {k n:UInt8} {r:List UInt8} (h:¬ (n.toNat<2∨r.length+2<n.toNat)):acc out (k :: n :: r)=acc (out ++ [⟨(k.toNat:Int),co (r.take (n.toNat - 2))⟩]) (r.drop (n.toNat - 2)):=by
 unfold acc;rw [rd_step h];cases rd (r.drop (n.toNat - 2)) with
 | none=>rfl
 | some L=>simp
theorem acc_wrong {out:List Opt} (l:List UInt8) (h:right out=false):acc out l=none:=by
 unfold acc;cases rd l with
 | none=>rfl
 | some L =>
  rw [Option.bind_some,if_neg];intro h2;rw [right_front h2] at h;cases h
theorem acc_long (out:List Opt) {k n:UInt8} {r:List UInt8} (h:22<n.toNat):acc out (k :: n :: r)=none:=by
 by_cases hb:n.toNat<2∨r.length+2<n.toNat
 ·exact acc_bad out hb
 ·rw [acc_step out hb];refine acc_wrong _ ?_;rw [← Bool.not_eq_true];intro hr;have ho:=right_all hr ⟨(k.toNat:Int),co (r.take (n.toNat - 2))⟩ (by simp);have h3:=(of_decide_eq_true ho).2.2;rw [eJ,List.length_take] at h3;omega
theorem acc_right {out L:List Opt} {l:List UInt8} (h:acc out l=some L):right L=true:=by
 unfold acc at h;cases hr:rd l with
 | none=>rw [hr] at h;cases h
 | some M =>
  rw [hr,Option.bind_some] at h;by_cases hq:right (out ++ M)=true
  ·rw [if_pos hq] at h;cases h;exact hq
  ·rw [if_neg hq] at h;cases h
theorem one_len (o:Opt):(one o).length=o.data.size+2:=by
 unfold one;rw [List.length_append,Array.length_toList];show 2+o.data.size=_
 omega
theorem bytes_snoc (l:List Opt) (o:Opt):bytes (l ++ [o])=bytes l ++ one o:=by simp [bytes]
theorem bytes_cons (o:Opt) (l:List Opt):bytes (o :: l)=one o ++ bytes l:=by simp [bytes]
theorem bytes_len {l:List Opt} (h:∀ o ∈ l,ok o=true):(bytes l).length≤22*l.length:=by
 induction l with
 | nil=>simp [bytes]
 | cons o l ih =>
  have h1:=(of_decide_eq_true (h o (by simp))).2.2;have h2:=ih fun x hx=>h x (List.mem_cons_of_mem _ hx)
  rw [bytes_cons,List.length_append,one_len,List.length_cons];omega
theorem bytes_rd (m:Nat):∀ (u:List UInt8) (L:List Opt),u.length≤m→rd u=some L→bytes L=u:=by
 induction m with
 | zero =>
  intro u L hu h;rw [List.eq_nil_of_length_eq_zero (l:=u) (by omega),rd_nil] at h;cases h;rw [List.eq_nil_of_length_eq_zero (l:=u) (by omega)];rfl
 | succ m ih =>
  intro u L hu h;rcases u with _ | ⟨k,_ | ⟨n,r⟩⟩
  ·rw [rd_nil] at h;cases h;rfl
  ·rw [rd_one] at h;cases h
  ·by_cases hb:n.toNat<2∨r.length+2<n.toNat
   ·rw [rd_bad hb] at h;cases h
   ·rw [rd_step hb] at h;cases hr:rd (r.drop (n.toNat - 2)) with
    | none=>rw [hr] at h;cases h
    | some M =>
     rw [hr] at h;cases h;have h2:=ih _ _ (by rw [List.length_drop];simp at hu;omega) hr;have h3:(co (r.take (n.toNat - 2))).size+2=n.toNat:=by rw [eJ,List.length_take];omega
     rw [bytes_cons,h2];unfold one;dsimp only;rw [h3,kN];simp
theorem bytes_acc {u:List UInt8} {L:List Opt} (h:acc [] u=some L):told L=u:=by
 have hr:=acc_right h;unfold told;rw [if_pos hr];unfold acc at h;cases hq:rd u with
 | none=>rw [hq] at h;cases h
 | some M =>
  rw [hq,Option.bind_some,List.nil_append] at h;have h2:=bytes_rd _ u M (zD _) hq;by_cases hm:right M=true
  ·rw [if_pos hm] at h;cases h;exact h2
  ·rw [if_neg hm] at h;cases h
structure Pk where
 code:Int
 id:Int
 data:ByteArray
def pok (p:Pk):Bool:=decide (0≤p.code∧p.code≤255∧0≤p.id∧p.id≤255∧p.data.size≤250)
def phead (p:Pk):List UInt8:=[UInt8.ofNat p.code.toNat,UInt8.ofNat p.id.toNat,UInt8.ofNat ((p.data.size+4) / 256),UInt8.ofNat (p.data.size+4)]
def ptold (p:Pk):List UInt8:=if pok p=true then phead p ++ p.data.data.toList else []
structure Out where
 pk:Pk
 code:Int
def no (c:Int):Out:=⟨⟨0,0,⟨#[]⟩⟩,c⟩
end Go.Proofs.YtjdgiimfpkideaaGreatDoor.Op
namespace Go.Proofs.YtjdgiimfpkideaaGreatDoor
open Go.RowKit Go.Proofs.Tryz
abbrev cY (f:Nat):Value:=.func (.func f) #[] #[]
abbrev aZ (k:Int) (a b c d e:Nat):Value:=.agg #[.int .i64 k,cY a,cY b,cY c,cY d,cY e]
theorem gV (w:World) (M:Nat) (es:Array MapEntry) (c:Nat) (k:Int) (v:Value) (hb:w.heap[M]?=some (.map es c)) (hf:Instr.findNow (.int .i64) (.int .i64 k) es.toList 0=some none) :
  ∃ W,(Instr.mapUpdate 183 (.map (some M)) (.int .i64 k) v).run prog w=.ok () W∧W.heap[M]?=some (.map (es.push { key:=.int .i64 k,val:=v,born:=c }) (c+1))∧(∀ B,B≤M→Below B w W):=by
 refine ⟨{ w with heap:=w.heap.setIfInBounds M (.map (es.push { key:=.int .i64 k,val:=v,born:=c }) (c+1)) },?_,(MapKept.heap_set hb).1,fun B hB=>⟨rfl,rfl,rfl,?_,fun g hg=>(MapKept.heap_set hb).2 g (by omega)⟩⟩
 ·unfold Instr.mapUpdate;simp only [Sem.run_bind,run_underlying underlying183,MapKept.run_getObj_map hb,MapKept.run_checkKey underlying2 (d:=.int .i64) (k:=.int .i64 k) (by trivial),MapKept.run_findKey underlying2 hf,Result.andThen];rw [MapKept.run_setObj_map _ hb]
 ·simp
theorem rV (w:World) (M:Nat) (es:Array MapEntry) (c i:Nat) (k:Int) (v:Value) (hb:w.heap[M]?=some (.map es c)) (hf:Instr.findNow (.int .i64) (.int .i64 k) es.toList 0=some (some (i,v))) :
  (Instr.lookup 183 (.map (some M)) (.int .i64 k) false).run prog w=.ok v w:=by
 unfold Instr.lookup;simp only [Sem.run_bind,Sem.run_pure,run_underlying underlying183,MapKept.run_getObj_map hb,MapKept.run_checkKey underlying2 (d:=.int .i64) (k:=.int .i64 k) (by trivial),MapKept.run_findKey underlying2 hf,Result.andThen];rfl
theorem rW (w:World):Calls prog 152 #[] w fun e w'=>e=.returned (aZ 2 170 171 173 174 175)∧Below w.heap.size w w':=by
 go_enter func152,ntmps152
 go_wp2
 refine bodyPost_ret (v:=(aZ 2 170 171 173 174 175)) (by simp [results,results152,go_sem]) rfl ⟨rfl,?_⟩;exact (zC _ _).alloc (zD _) _
theorem py (w:World):Calls prog 153 #[] w fun e w'=>e=.returned (aZ 4 176 177 178 179 180)∧Below w.heap.size w w':=by
 go_enter func153,ntmps153
 go_wp2
 refine bodyPost_ret (v:=(aZ 4 176 177 178 179 180)) (by simp [results,results153,go_sem]) rfl ⟨rfl,?_⟩;exact (zC _ _).alloc (zD _) _
theorem oA (w:World):Calls prog 154 #[] w fun e w'=>e=.returned (aZ 4 181 182 184 185 186)∧Below w.heap.size w w':=by
 go_enter func154,ntmps154
 go_wp2
 refine bodyPost_ret (v:=(aZ 4 181 182 184 185 186)) (by simp [results,results154,go_sem]) rfl ⟨rfl,?_⟩;exact (zC _ _).alloc (zD _) _
theorem rX (w:World):Calls prog 155 #[] w fun e w'=>e=.returned (aZ 0 187 188 189 190 191)∧Below w.heap.size w w':=by
 go_enter func155,ntmps155
 go_wp2
 refine bodyPost_ret (v:=(aZ 0 187 188 189 190 191)) (by simp [results,results155,go_sem]) rfl ⟨rfl,?_⟩;exact (zC _ _).alloc (zD _) _
theorem pz (w:World):Calls prog 156 #[] w fun e w'=>e=.returned (aZ 0 192 193 194 195 196)∧Below w.heap.size w w':=by
 go_enter func156,ntmps156
 go_wp2
 refine bodyPost_ret (v:=(aZ 0 192 193 194 195 196)) (by simp [results,results156,go_sem]) rfl ⟨rfl,?_⟩;exact (zC _ _).alloc (zD _) _
theorem rY (w:World):Calls prog 157 #[] w fun e w'=>e=.returned (aZ 1 197 198 199 200 201)∧Below w.heap.size w w':=by
 go_enter func157,ntmps157
 go_wp2
 refine bodyPost_ret (v:=(aZ 1 197 198 199 200 201)) (by simp [results,results157,go_sem]) rfl ⟨rfl,?_⟩;exact (zC _ _).alloc (zD _) _
def cI:Array MapEntry:=#[{ key:=.int .i64 1,val:=(aZ 2 170 171 173 174 175),born:=0 },{ key:=.int .i64 2,val:=(aZ 4 176 177 178 179 180),born:=1 },{ key:=.int .i64 5,val:=(aZ 4 181 182 184 185 186),born:=2 },{ key:=.int .i64 7,val:=(aZ 0 187 188 189 190 191),born:=3 },{ key:=.int .i64 8,val:=(aZ 0 192 193 194 195 196),born:=4 },{ key:=.int .i64 9,val:=(aZ 1 197 198 199 200 201),born:=5 }]
theorem dF (w:World):Calls prog 141 #[] w fun e w'=>e=.returned (.map (some w.heap.size))∧w'.heap[w.heap.size]?=some (.map cI 6)∧Below w.heap.size w w':=by
 have hmm:=@run_makeMap prog;have hb0:=(zC w.heap.size w).alloc (zD _) (.map #[] 0);have hm0:(w.alloc (.map #[] 0)).heap[w.heap.size]?=some (.map #[] 0):=heap_alloc_last w _;have hl0:(w.alloc (.map #[] 0)).heap.size=w.heap.size+1:=by simp
 go_enter func141,ntmps141
 go_wp2_with fail
 refine (rW _).mono ?_;rintro e v1 ⟨rfl,hc1⟩;have hn1:=(hc1.block w.heap.size (ge.1 hm0).1).trans hm0;have hd1:=hb0.trans (hc1.mono hb0.size);obtain ⟨w1,hp1,hm1,hq1⟩:=gV v1 w.heap.size #[] 0 1 (aZ 2 170 171 173 174 175) hn1 rfl;have hb1:=hd1.trans (hq1 _ (zD _));simp only [List.push_toArray,List.nil_append] at hm1;clear hc1 hn1 hd1 hq1 hb0 hm0;go_wp2_with fail
 refine (py _).mono ?_;rintro e v2 ⟨rfl,hc2⟩;have hn2:=(hc2.block w.heap.size (ge.1 hm1).1).trans hm1;have hd2:=hb1.trans (hc2.mono hb1.size);obtain ⟨w2,hp2,hm2,hq2⟩:=gV v2 w.heap.size #[{ key:=.int .i64 1,val:=(aZ 2 170 171 173 174 175),born:=0 }] 1 2 (aZ 4 176 177 178 179 180) hn2 rfl;have hb2:=hd2.trans (hq2 _ (zD _));simp only [List.push_toArray,List.cons_append,List.nil_append] at hm2;clear hc2 hn2 hd2 hq2 hb1 hm1;go_wp2_with fail
 refine (oA _).mono ?_;rintro e v3 ⟨rfl,hc3⟩;have hn3:=(hc3.block w.heap.size (ge.1 hm2).1).trans hm2;have hd3:=hb2.trans (hc3.mono hb2.size);obtain ⟨w3,hp3,hm3,hq3⟩:=gV v3 w.heap.size #[{ key:=.int .i64 1,val:=(aZ 2 170 171 173 174 175),born:=0 },{ key:=.int .i64 2,val:=(aZ 4 176 177 178 179 180),born:=1 }] 2 5 (aZ 4 181 182 184 185 186) hn3 rfl;have hb3:=hd3.trans (hq3 _ (zD _));simp only [List.push_toArray,List.cons_append,List.nil_append] at hm3;clear hc3 hn3 hd3 hq3 hb2 hm2;go_wp2_with fail
 refine (rX _).mono ?_;rintro e v4 ⟨rfl,hc4⟩;have hn4:=(hc4.block w.heap.size (ge.1 hm3).1).trans hm3;have hd4:=hb3.trans (hc4.mono hb3.size);obtain ⟨w4,hp4,hm4,hq4⟩:=gV v4 w.heap.size #[{ key:=.int .i64 1,val:=(aZ 2 170 171 173 174 175),born:=0 },{ key:=.int .i64 2,val:=(aZ 4 176 177 178 179 180),born:=1 },{ key:=.int .i64 5,val:=(aZ 4 181 182 184 185 186),born:=2 }] 3 7 (aZ 0 187 188 189 190 191) hn4 rfl;have hb4:=hd4.trans (hq4 _ (zD _));simp only [List.push_toArray,List.cons_append,List.nil_append] at hm4;clear hc4 hn4 hd4 hq4 hb3 hm3;go_wp2_with fail
 refine (pz _).mono ?_;rintro e v5 ⟨rfl,hc5⟩;have hn5:=(hc5.block w.heap.size (ge.1 hm4).1).trans hm4;have hd5:=hb4.trans (hc5.mono hb4.size);obtain ⟨w5,hp5,hm5,hq5⟩:=gV v5 w.heap.size #[{ key:=.int .i64 1,val:=(aZ 2 170 171 173 174 175),born:=0 },{ key:=.int .i64 2,val:=(aZ 4 176 177 178 179 180),born:=1 },{ key:=.int .i64 5,val:=(aZ 4 181 182 184 185 186),born:=2 },{ key:=.int .i64 7,val:=(aZ 0 187 188 189 190 191),born:=3 }] 4 8 (aZ 0 192 193 194 195 196) hn5 rfl;have hb5:=hd5.trans (hq5 _ (zD _));simp only [List.push_toArray,List.cons_append,List.nil_append] at hm5;clear hc5 hn5 hd5 hq5 hb4 hm4;go_wp2_with fail
 refine (rY _).mono ?_;rintro e v6 ⟨rfl,hc6⟩;have hn6:=(hc6.block w.heap.size (ge.1 hm5).1).trans hm5;have hd6:=hb5.trans (hc6.mono hb5.size);obtain ⟨w6,hp6,hm6,hq6⟩:=gV v6 w.heap.size #[{ key:=.int .i64 1,val:=(aZ 2 170 171 173 174 175),born:=0 },{ key:=.int .i64 2,val:=(aZ 4 176 177 178 179 180),born:=1 },{ key:=.int .i64 5,val:=(aZ 4 181 182 184 185 186),born:=2 },{ key:=.int .i64 7,val:=(aZ 0 187 188 189 190 191),born:=3 },{ key:=.int .i64 8,val:=(aZ 0 192 193 194 195 196),born:=4 }] 5 9 (aZ 1 197 198 199 200 201) hn6 rfl;have hb6:=hd6.trans (hq6 _ (zD _));simp only [List.push_toArray,List.cons_append,List.nil_append] at hm6;clear hc6 hn6 hd6 hq6 hb5 hm5;go_wp2
 go_ret
 exact ⟨rfl,hm6,hb6⟩
theorem aH {n:Nat} {w W:World} (h:Below n w W) (k:Nat):Below n w (W.drewN k):=⟨h.os,h.tape,h.output,h.size,h.block⟩
abbrev cN (m a g:Int) (p c d:Bool):Value:=.agg #[.int .i64 m,.int .i64 a,.int .i64 g,.bool p,.bool c,.bool d]
theorem bM {f : Nat} (h : (prog.funcs[f]?).map (fun fn => (fn.name == "runtime.NumGoroutine") || fn.body.isNone) = some false) (args : Array Value) (W : World) : (callFunc f args).run prog W = .ok (.enter f args) W := by
 obtain ⟨fn,hf,h2⟩:=Option.map_eq_some_iff.1 h;rw [Bool.or_eq_false_iff] at h2;unfold callFunc;have h3 : ¬ (fn.name = "runtime.NumGoroutine") := beq_eq_false_iff_ne.1 h2.1
 have h4:¬ (fn.body=none):=fun e=>by rw [e] at h2;exact absurd h2.2 (by decide)
 simp [go_sem,hf,h3,h4]
def al (lo hi x:Int):Bool:=decide (lo≤x) && decide (x≤hi)
def aK (m a g:Int):Bool:=al 64 300 m && (al 0 4294967295 a && al 0 4294967295 g)
theorem iY (x:Int) (w:World):Calls prog 36 #[.int .i64 x] w fun e w'=>e=.returned (.bool (al 64 300 x))∧w'=w:=by
 by_cases h1:64≤x
 ·have d1:decide ((64:Int)≤x)=true:=decide_eq_true h1;by_cases h2:x≤300
  ·have d2:decide (x≤300)=true:=decide_eq_true h2;rw [show al 64 300 x=true by simp [al,h1,h2]];go_enter func36,ntmps36
   go_wp2
   go_ret
   exact ⟨rfl,rfl⟩
  ·have d2:decide (x≤300)=false:=decide_eq_false h2;rw [show al 64 300 x=false by simp [al,h2]];go_enter func36,ntmps36
   go_wp2
   go_ret
   exact ⟨rfl,rfl⟩
 ·have d1:decide ((64:Int)≤x)=false:=decide_eq_false h1;rw [show al 64 300 x=false by simp [al,h1]];go_enter func36,ntmps36
  go_wp2
  go_ret
  exact ⟨rfl,rfl⟩
theorem oB (x:Int) (w:World):Calls prog 37 #[.int .i64 x] w fun e w'=>e=.returned (.bool (al 0 4294967295 x))∧w'=w:=by
 by_cases h1:0≤x
 ·have d1:decide ((0:Int)≤x)=true:=decide_eq_true h1;by_cases h2:x≤4294967295
  ·have d2:decide (x≤4294967295)=true:=decide_eq_true h2;rw [show al 0 4294967295 x=true by simp [al,h1,h2]];go_enter func37,ntmps37
   go_wp2
   go_ret
   exact ⟨rfl,rfl⟩
  ·have d2:decide (x≤4294967295)=false:=decide_eq_false h2;rw [show al 0 4294967295 x=false by simp [al,h2]];go_enter func37,ntmps37
   go_wp2
   go_ret
   exact ⟨rfl,rfl⟩
 ·have d1:decide ((0:Int)≤x)=false:=decide_eq_false h1;rw [show al 0 4294967295 x=false by simp [al,h1]];go_enter func37,ntmps37
  go_wp2
  go_ret
  exact ⟨rfl,rfl⟩
theorem dl (x:Int) (lo hi:Int) (w:World):Calls prog 48 #[.int .i64 x,.int .i64 lo,.int .i64 hi] w fun e w'=>e=.returned (.bool (al lo hi x))∧w'=w:=by
 by_cases h1:lo≤x
 ·have d1:decide ((lo:Int)≤x)=true:=decide_eq_true h1;by_cases h2:x≤hi
  ·have d2:decide (x≤hi)=true:=decide_eq_true h2;rw [show al lo hi x=true by simp [al,h1,h2]];go_enter func48,ntmps48
   go_wp2
   go_ret
   exact ⟨rfl,rfl⟩
  ·have d2:decide (x≤hi)=false:=decide_eq_false h2;rw [show al lo hi x=false by simp [al,h2]];go_enter func48,ntmps48
   go_wp2
   go_ret
   exact ⟨rfl,rfl⟩
 ·have d1:decide ((lo:Int)≤x)=false:=decide_eq_false h1;rw [show al lo hi x=false by simp [al,h1]];go_enter func48,ntmps48
  go_wp2
  go_ret
  exact ⟨rfl,rfl⟩
theorem pA (x:Int) (w:World):Calls prog 49 #[.int .i64 x] w fun e w'=>e=.returned (.bool (al 0 4294967295 x))∧w'=w:=by
 have C:=aa (dl x 0 4294967295 w);generalize al 0 4294967295 x=ok at *;go_enter func49,ntmps49
 go_wp2_with (first
  | (go_at_call 48;refine (uh C).mono ?_;rintro e w1 ⟨rfl,rfl⟩))
 go_ret
 exact ⟨rfl,rfl⟩
theorem pB (m a g:Int) (h1:al 64 300 m=true) (h2:al 0 4294967295 a=true):aK m a g=al 0 4294967295 g:=by
 unfold aK;rw [h1,h2,Bool.true_and,Bool.true_and]
theorem dm (m a g:Int) (p c d:Bool) (w:World):Calls prog 22 #[.agg #[.int .i64 m,.int .i64 a,.int .i64 g,.bool p,.bool c,.bool d]] w fun e w'=>e=.returned (.bool (aK m a g))∧Below w.heap.size w w':=by
 have C1:=aa fun v=>iY m v
 have C2:=aa fun v=>oB a v
 by_cases h1:al 64 300 m=true
 ·by_cases h2:al 0 4294967295 a=true
  ·rw [pB m a g h1 h2];rw [h1] at C1;rw [h2] at C2;by_cases h3:0≤g
   ·have d1:decide ((0:Int)≤g)=true:=decide_eq_true h3;by_cases h4:g≤4294967295
    ·have d2:decide (g≤4294967295)=true:=decide_eq_true h4;rw [show al 0 4294967295 g=true by simp [al,h3,h4]];go_enter func22,ntmps22
     go_wp2_with (first
      | (go_at_call 36;refine (uh C1 _).mono ?_;rintro e w1 ⟨rfl,rfl⟩)
      | (go_at_call 37;refine (uh C2 _).mono ?_;rintro e w2 ⟨rfl,rfl⟩))
     go_ret
     exact ⟨rfl,(zC _ _).alloc (zD _) _⟩
    ·have d2:decide (g≤4294967295)=false:=decide_eq_false h4;rw [show al 0 4294967295 g=false by simp [al,h4]];go_enter func22,ntmps22
     go_wp2_with (first
      | (go_at_call 36;refine (uh C1 _).mono ?_;rintro e w1 ⟨rfl,rfl⟩)
      | (go_at_call 37;refine (uh C2 _).mono ?_;rintro e w2 ⟨rfl,rfl⟩))
     go_ret
     exact ⟨rfl,(zC _ _).alloc (zD _) _⟩
   ·have d1:decide ((0:Int)≤g)=false:=decide_eq_false h3;rw [show al 0 4294967295 g=false by simp [al,h3]];go_enter func22,ntmps22
    go_wp2_with (first
     | (go_at_call 36;refine (uh C1 _).mono ?_;rintro e w1 ⟨rfl,rfl⟩)
     | (go_at_call 37;refine (uh C2 _).mono ?_;rintro e w2 ⟨rfl,rfl⟩))
    go_ret
    exact ⟨rfl,(zC _ _).alloc (zD _) _⟩
  ·rw [Bool.not_eq_true] at h2;rw [show aK m a g=false by simp [aK,h2]];rw [h1] at C1;rw [h2] at C2;go_enter func22,ntmps22
   go_wp2_with (first
    | (go_at_call 36;refine (uh C1 _).mono ?_;rintro e w1 ⟨rfl,rfl⟩)
    | (go_at_call 37;refine (uh C2 _).mono ?_;rintro e w2 ⟨rfl,rfl⟩))
   go_ret
   exact ⟨rfl,(zC _ _).alloc (zD _) _⟩
 ·rw [Bool.not_eq_true] at h1;rw [show aK m a g=false by simp [aK,h1]];rw [h1] at C1;clear C2;go_enter func22,ntmps22
  go_wp2_with (first
   | (go_at_call 36;refine (uh C1 _).mono ?_;rintro e w1 ⟨rfl,rfl⟩))
  go_ret
  exact ⟨rfl,(zC _ _).alloc (zD _) _⟩
theorem dO (m a g:Int) (p c d:Bool) (w:World):Calls prog 26 #[.agg #[.int .i64 m,.int .i64 a,.int .i64 g,.bool p,.bool c,.bool d]] w fun e w'=>e=.returned (.bool (aK m a g))∧Below w.heap.size w w':=by
 have C1:=aa fun v=>dl m 64 300 v
 have C2:=aa fun v=>pA a v
 have C3:=aa fun v=>dl g 0 4294967295 v
 unfold aK;generalize al 64 300 m=b1 at *;generalize al 0 4294967295 a=b2 at *;generalize al 0 4294967295 g=b3 at *;cases b1
 ·go_enter func26,ntmps26
  go_wp2_with fail
  refine (uh C1 _).mono ?_;rintro e w1 ⟨rfl,rfl⟩;go_wp2
  go_ret
  exact ⟨rfl,(zC _ _).alloc (zD _) _⟩
 cases b2
 ·go_enter func26,ntmps26
  go_wp2_with fail
  refine (uh C1 _).mono ?_;rintro e w1 ⟨rfl,rfl⟩;go_wp2_with fail
  refine (uh C2 _).mono ?_;rintro e w2 ⟨rfl,rfl⟩;go_wp2
  go_ret
  exact ⟨rfl,(zC _ _).alloc (zD _) _⟩
 ·go_enter func26,ntmps26
  go_wp2_with fail
  refine (uh C1 _).mono ?_;rintro e w1 ⟨rfl,rfl⟩;go_wp2_with fail
  refine (uh C2 _).mono ?_;rintro e w2 ⟨rfl,rfl⟩;go_wp2_with fail
  refine (uh C3 _).mono ?_;rintro e w3 ⟨rfl,rfl⟩;go_wp2
  go_ret
  exact ⟨rfl,(zC _ _).alloc (zD _) _⟩
theorem pC (l:List UInt8) (n:Nat):l.foldl (fun n c=>256*n+c.toNat) n<(n+1)*256 ^ l.length:=by
 induction l generalizing n with
 | nil=>simp
 | cons c l ih =>
  have h:=ih (256*n+c.toNat);have hc:=c.toNat_lt;rw [List.foldl_cons,List.length_cons,Nat.pow_succ,Nat.mul_comm (256 ^ l.length) 256,← Nat.mul_assoc];exact Nat.lt_of_lt_of_le h (Nat.mul_le_mul_right _ (by omega))
theorem kX (l:List UInt8):ax l<256 ^ l.length:=by
 have:=pC l 0
 rw [Nat.zero_add,Nat.one_mul] at this;exact this
theorem jN (l:List UInt8) (h:l.length<4):ax l<16777216:=by
 have h1:=kX l;have h2:256 ^ l.length≤256 ^ 3:=Nat.pow_le_pow_right (by decide) (by omega);omega
theorem eM (l:List UInt8) (h:l.length≤4):ax l<4294967296:=by
 have h1:=kX l;have h2:256 ^ l.length≤256 ^ 4:=Nat.pow_le_pow_right (by decide) h;omega
theorem yn (a b:Nat) (ha:a<16777216) (hb:b<256):bits .or .i64 ((a:Int)*256) (b:Int)=((256*a+b:Nat):Int):=by
 have h1:a*256 ||| b=a*2 ^ 8+b:=by
  rw [Nat.mul_comm,show (256:Nat)=2 ^ 8 from rfl,← Nat.two_pow_add_eq_or_of_lt (by omega),Nat.mul_comm]
 show IntKind.i64.wrap ((BitVec.ofInt 64 ((a:Int)*256) ||| BitVec.ofInt 64 (b:Int)).toNat:Int)=_
 rw [show (a:Int)*256=((a*256:Nat):Int) by omega,BitVec.toNat_or,ofInt_u64 (a*256) (by omega),ofInt_u64 b (by omega),h1,IntKind.wrap_i64];omega
theorem iZ (a b:Nat) (ha:a<4294967296) (hb:b<4294967296):bits .or .i64 (a:Int) (b:Int)=((a ||| b:Nat):Int):=by
 have h3:a ||| b<2 ^ 32:=Nat.or_lt_two_pow (by omega) (by omega)
 show IntKind.i64.wrap ((BitVec.ofInt 64 (a:Int) ||| BitVec.ofInt 64 (b:Int)).toNat:Int)=_
 rw [BitVec.toNat_or,ofInt_u64 a (by omega),ofInt_u64 b (by omega),IntKind.wrap_i64];omega
theorem i6 (l:List UInt8) (k:Nat) (hlt:k<l.length):ax (l.take (k+1))=256*ax (l.take k)+l[k].toNat:=by
 unfold ax;rw [List.take_succ_eq_append_getElem hlt,List.foldl_append];rfl
theorem pD (B off cap:Nat) (l:List UInt8) (w:World) (hl4:l.length≤4) (hl:Lies w B off l) :
  Calls prog 158 #[.slice (some ⟨B,off,none⟩) l.length cap] w fun e w'=>e=.returned (.int .i64 (ax l:Nat))∧w'=w:=by
 go_enter func158,ntmps158
 go_wp2
 go_loop [3,8] (fun n i=>∃ (k:Nat),k≤l.length∧i=.int .i64 k∧n=.int .i64 (ax (l.take k):Nat)) (fun _ i=>l.length - (intOf i).toNat)
 case atStart=>exact ⟨0,Nat.zero_le _,rfl,rfl⟩
 case round =>
  obtain ⟨k,hk,rfl,rfl⟩:=hrel;by_cases hlt:k<l.length
  ·have hc:=hl k hlt;have HS:=aa (i6 l k hlt);have hn:ax (l.take k)<16777216:=jN _ (by rw [List.length_take];omega);have ho:=yn (ax (l.take k)) l[k].toNat hn l[k].toNat_lt;have HW:Hid (wrap64 (l[k].toNat:Int)=(l[k].toNat:Int)):=aa (by have:=l[k].toNat_lt;unfold wrap64;omega);generalize ax (l.take k)=n at *;have d1:(k:Int)<(l.length:Int):=by omega
   clear hl;go_wp2
   go_round
   case rel=>exact ⟨k+1,by omega,by go_num,by rw [uh HW,ho,uh HS]⟩
   case measure=>simp [intOf];omega
  ·have HK:=aa (List.take_of_length_le (l:=l) (i:=k) (by omega));have d1:¬ ((k:Int)<(l.length:Int)):=by omega
   go_wp2
   go_ret
   exact ⟨by rw [uh HK];rfl,rfl⟩
theorem dX (t:ByteArray) (many:Nat) (w:World) (hm:many≤4) (h:t.size=many) :
  Calls prog 126 #[.string t,.int .i64 many] w fun e w'=>e=.returned (.tuple #[.int .i64 (ax t.data.toList:Nat),.bool true])∧w'=w:=by
 subst h;have d0:((t.size:Int) == (t.size:Int))=true:=beq_self_eq_true _;go_enter func126,ntmps126
 go_wp2_with fail
 go_loop [6,7] (fun n i=>∃ k:Nat,k≤t.size∧i=.int .i64 k∧n=.int .i64 (ax (t.data.toList.take k):Nat)) (fun _ i=>t.size - (intOf i).toNat)
 case atStart=>exact ⟨0,Nat.zero_le _,rfl,rfl⟩
 case round =>
  obtain ⟨k,hk,rfl,rfl⟩:=hrel;by_cases hlt:k<t.size
  ·have hl2:k<t.data.toList.length:=by rw [bC];exact hlt
   have HS:Hid (ax (t.data.toList.take (k+1))=256*ax (t.data.toList.take k)+(t[k]'hlt).toNat):=aa (i6 t.data.toList k hl2);have hn:ax (t.data.toList.take k)<16777216:=jN _ (by rw [List.length_take];omega);have hc:=(t[k]'hlt).toNat_lt;generalize ax (t.data.toList.take k)=n at *;have d1:decide ((k:Int)<(t.size:Int))=true:=decide_eq_true (by omega);clear hl2;go_wp2
   go_round
   case rel=>exact ⟨k+1,by omega,by go_num,by rw [uh HS];congr 1⟩
   case measure=>simp [intOf];omega
  ·have e:k=t.size:=by omega
   subst e;have HK:=aa (List.take_of_length_le (l:=t.data.toList) (i:=t.size) (by rw [bC];omega));have d1:decide ((t.size:Int)<(t.size:Int))=false:=decide_eq_false (by omega);go_wp2
   go_ret2
   exact ⟨by rw [uh HK];rfl,rfl⟩
theorem uq (n a:Nat):(n &&& a=a)↔(n ||| a=n):=by
 constructor
 ·intro h;apply Nat.eq_of_testBit_eq
  intro i;have hi:(n &&& a).testBit i=a.testBit i:=by rw [h]
  rw [Nat.testBit_and] at hi;rw [Nat.testBit_or];revert hi
  cases n.testBit i<;>cases a.testBit i<;>simp
 ·intro h;apply Nat.eq_of_testBit_eq
  intro i;have hi:(n ||| a).testBit i=n.testBit i:=by rw [h]
  rw [Nat.testBit_or] at hi;rw [Nat.testBit_and];revert hi
  cases n.testBit i<;>cases a.testBit i<;>simp
theorem i7 (k:Int) (t:ByteArray) (w:World) (ht:t.size≤4) :
  Calls prog 143 #[.agg #[.int .i64 k,.string t]] w fun e w'=>e=.returned (.int .i64 (ax t.data.toList:Nat))∧Below w.heap.size w w':=by
 have hq:∃ q,w.alloc (.cells #[.int .i64 k,.string t] 105)=q:=⟨_,rfl⟩;obtain ⟨q,hq⟩:=hq;obtain ⟨cap,W',hcv,hcap,hli,hb,hs⟩:=kT t q;have C:=aa (pD q.heap.size 0 cap t.data.toList W' (by rw [bC];exact ht) hli);subst hq;have HB:Hid (Below w.heap.size w W'):=aa (((zC _ _).alloc (zD _) _).trans (hb.mono (by simp)));have hs0:(w.alloc (.cells #[.int .i64 k,.string t] 105)).heap.size=w.heap.size+1:=by simp
 rw [hs0] at hcv C;clear hb hs hli hcap hs0;go_enter func143,ntmps143
 go_wp2_with fail
 refine (uh C).mono ?_;rintro e w2 ⟨rfl,rfl⟩;go_wp2
 go_ret
 exact ⟨rfl,uh HB⟩
theorem eN (t:ByteArray) (many:Nat) (w:World) (ht:t.size≤20) (h:t.size≠many) :
  Calls prog 126 #[.string t,.int .i64 many] w fun e w'=>e=.returned (.tuple #[.int .i64 0,.bool false])∧w'=w:=by
 have d0:((t.size:Int) == (many:Int))=false:=beq_eq_false_iff_ne.2 (by omega);by_cases h0:0<t.size
 ·have d1:decide ((0:Int)<(t.size:Int))=true:=decide_eq_true (by omega);go_enter func126,ntmps126
  go_wp2_with fail
  go_loop [6,7] (fun n i=>i=.int .i64 0∧n=.int .i64 0) (fun _ _=>0)
  case atStart=>exact ⟨rfl,rfl⟩
  case round =>
   obtain ⟨rfl,rfl⟩:=hrel;go_wp2
   go_ret2
   exact ⟨rfl,rfl⟩
 ·have d1:decide ((0:Int)<(t.size:Int))=false:=decide_eq_false (by omega);go_enter func126,ntmps126
  go_wp2_with fail
  go_loop [6,7] (fun n i=>i=.int .i64 0∧n=.int .i64 0) (fun _ _=>0)
  case atStart=>exact ⟨rfl,rfl⟩
  case round =>
   obtain ⟨rfl,rfl⟩:=hrel;go_wp2
   go_ret2
   exact ⟨rfl,rfl⟩
end Go.Proofs.YtjdgiimfpkideaaGreatDoor
namespace Go.Proofs.YtjdgiimfpkideaaGreatDoor
open Go.Proofs.Tryz
def bN (k:Int):Option Nat:=if k=1 then some 2 else if k=2 then some 4 else if k=5 then some 4 else if k=7 then some 0 else if k=8 then some 0 else if k=9 then some 1 else none
theorem i8 {k:Int} {s:Nat} (h:bN k=some s):s≤4:=by
 unfold bN at h;repeat' split at h
 all_goals first | (cases h;omega) | (cases h)
end Go.Proofs.YtjdgiimfpkideaaGreatDoor
namespace Go.Proofs.YtjdgiimfpkideaaGreatDoor
open Go.RowKit Go.Proofs.Tryz
theorem aJ {w:World} {B:Nat} {x0 x1 x2 x3 x4 x5:Value} {T:TypeId} (h:w.heap[B]?=some (.cells #[x0,x1,x2,x3,x4,x5] T)) :
  w.cell? ⟨B,0,none⟩=some x0∧w.cell? ⟨B,1,none⟩=some x1∧w.cell? ⟨B,2,none⟩=some x2∧w.cell? ⟨B,3,none⟩=some x3∧w.cell? ⟨B,4,none⟩=some x4∧w.cell? ⟨B,5,none⟩=some x5 :=
 ⟨by rw [cell_of_row _ _ 0 _ _ (0,0) h];rfl,by rw [cell_of_row _ _ 1 _ _ (0,0) h];rfl,by rw [cell_of_row _ _ 2 _ _ (0,0) h];rfl,by rw [cell_of_row _ _ 3 _ _ (0,0) h];rfl,
  by rw [cell_of_row _ _ 4 _ _ (0,0) h];rfl,by rw [cell_of_row _ _ 5 _ _ (0,0) h];rfl⟩
theorem av {w:World} {B:Nat} {x0 x1:Value} {T:TypeId} (h:w.heap[B]?=some (.cells #[x0,x1] T)) :
  w.cell? ⟨B,0,none⟩=some x0∧w.cell? ⟨B,1,none⟩=some x1∧w.frozen? ⟨B,0,none⟩=false∧w.frozen? ⟨B,1,none⟩=false :=
 ⟨by rw [cr h];rfl,by rw [cr h];rfl,aX h _,aX h _⟩
theorem br (w:World) (a b:Obj):((w.alloc a).alloc b).heap.size=w.heap.size+1+1∧((w.alloc a).alloc b).heap[w.heap.size]?=some a∧((w.alloc a).alloc b).heap[w.heap.size+1]?=some b∧Below w.heap.size w ((w.alloc a).alloc b):=by
 have s1:(w.alloc a).heap.size=w.heap.size+1:=by simp
 have e2:=zF (w.alloc a) b;rw [s1] at e2;refine ⟨by simp,?_,e2,((zC _ _).alloc (zD _) _).alloc (by omega) _⟩;rw [zG _ _ _ (by omega)];exact zF w a
theorem uu:(prog.info? 105).map (·.size)=some 2:=by kernel_rfl
theorem jO {W:World} {E:Nat} {x0 x1:Value} (h:W.heap[E]?=some (.cells #[x0,x1] 105)):(loadVar 105 ⟨E,0,none⟩).run prog W=.ok (.agg #[x0,x1]) W :=
 run_loadVar_row (P:=prog) _ _ 105 105 #[x0,x1] (0,0) _ h underlying105 rfl uu
theorem aM {W:World} {E:Nat} {z0 z1:Value} {T:TypeId} (h:W.heap[E]?=some (.cells #[z0,z1] T)) (x0 x1:Value) :
  ((W.setCell ⟨E,0,none⟩ x0).setCell ⟨E,1,none⟩ x1).heap[E]?=some (.cells #[x0,x1] T) :=
 zH _ _ 1 _ _ x1 (zH _ _ 0 _ _ x0 h)
theorem tv (m a g:Int) (p c d:Bool) (w:World) :
  Calls prog 11 #[.agg #[.int .i64 m,.int .i64 a,.int .i64 g,.bool p,.bool c,.bool d]] w fun e w'=>e=.returned (.agg #[.int .i64 m,.int .i64 a,.int .i64 g,.bool p,.bool c,.bool d])∧Below w.heap.size w w':=by
 go_enter func11,ntmps11
 go_wp2
 refine bodyPost_ret (v:=.agg #[.int .i64 m,.int .i64 a,.int .i64 g,.bool p,.bool c,.bool d]) (by simp [results,results11,go_sem]) rfl ⟨rfl,?_⟩;exact (((zC _ _).alloc (zD _) _).alloc (by simp) _).alloc (by simp;omega) _
def fF (fn:FuncId) (tmps:Array Value) (ps:Array Tmp) (assign body:Code) (D:Nat) (st:LoopState):Loop:={ state:=st,pending:=none,fn:=fn,tmps:=tmps,params:=ps,assign:=assign,body:=body,defers:=D }
structure RecAt (l:Nat) (r:LoopState→Loop) (D:Nat) (st:LoopState) (W:World):Prop where
 lp:W.heap[l]?=some (.loop (r st))
 df:W.heap[D]?=some (.deferred (some []))
theorem RecAt.keep {l D B:Nat} {r:LoopState→Loop} {st:LoopState} {W W':World} (h:RecAt l r D st W) (k:KeepsFrom B W W') (h1:B≤l) (h2:B≤D):RecAt l r D st W' :=
 ⟨k.same _ _ h1 h.lp rfl,k.same _ _ h2 h.df rfl⟩
theorem RecAt.ne {l D:Nat} {r:LoopState→Loop} {st:LoopState} {W:World} (h:RecAt l r D st W):D≠l:=fun e=>by
 have:=h.lp
 rw [← e,h.df] at this;cases this
theorem RecAt.put {l D:Nat} {r:LoopState→Loop} {st:LoopState} {W:World} (h:RecAt l r D st W) (st':LoopState):RecAt l r D st' (W.putObj l (.loop (r st'))) :=
 ⟨World.putObj_heap_same (ge.1 h.lp).1,(World.putObj_heap_other h.ne).trans h.df⟩
theorem lX {P:Program} {m l D B:Nat} {fn:FuncId} {tmps:Array Value} {ps:Array Tmp} {assign body:Code} {W:World} {x:Value}
  (hr:RecAt l (fF fn tmps ps assign body D) D .ready W) (hps:ps.size=1) (hl:B≤l) (hD:B≤D) {J:World→Prop}
  (hJ:∀ V r o,V.heap[l]?=some (.loop r)→J V→J (V.putObj l (.loop o)))
  (h:assign.wpIn (Fence.wide.inRound l) m P (Exit.then (fun a1 W1=>KeepsFrom B W W1∧∀ W2,W2=W1.putObj l (.loop (fF fn tmps ps assign body D .busy))→RecAt l (fF fn tmps ps assign body D) D .busy W2 →
   body.wpIn (Fence.wide.inRound l) m P (fun e _ W'=>e=.normal∧KeepsFrom B W2 W'∧J W') a1 W2) (fun _ _ _=>False))
   { tmps:=(ps.zip #[x]).foldl (fun t (p,v)=>t.setIfInBounds p v) tmps,defers:=[] } W) :
  YieldAt Fence.wide m P l #[x] W fun e W'=>e=.returned (.bool true)∧J W'∧RecAt l (fF fn tmps ps assign body D) D .ready W':=by
 refine ⟨fn,_,assign,body,run_yield (P:=P) (args:=#[x]) hr.lp (by rw [show (fF fn tmps ps assign body D .ready).params=ps from rfl,hps];rfl),roundIn_of_wpIn trivial (wpIn_mono h ?_)⟩;rintro e a1 W1 he;cases e with
 | normal =>
  obtain ⟨hk,hb⟩:=he;have r1:=hr.keep hk hl hD;refine ⟨_,run_beginRound r1.lp rfl,wpIn_mono (hb _ rfl (r1.put .busy)) ?_⟩;rintro e a2 W3 ⟨rfl,k3,j3⟩;have r3:=(r1.put .busy).keep k3 hl hD;exact ⟨_,_,run_endRound none r3.lp,rfl,hJ _ _ _ r3.lp j3,r3.put .ready⟩
 | _=>exact he.elim
theorem lZ {P:Program} {n:Nat} {g:Operand} {ps:Array Tmp} {assign body:Code} {Q:Exit→Act→World→Prop} {a:Act} {w:World} {gf:Nat} {lb:Array Value}
  (hg:a.eval g=.func (.func gf) #[] lb) (eg:∀ args w,(callFunc gf args).run P w=.ok (.enter gf args) w) {J:World→Prop}
  (hJ:∀ V l r o,w.heap.size≤l→V.heap[l]?=some (.loop r)→J V→J (V.putObj l (.loop o)))
  (hi:∀ fn l D W1 R,R=fF fn a.tmps ps assign body D→w.heap.size≤l→w.heap.size≤D→Below w.heap.size w W1→W1.heap.size=w.heap.size+2→RecAt l R D .ready W1 →
   CallsIn Fence.wide (n - 1) P gf (#[.func (.yield l) #[] #[]] ++ lb) W1 fun e W'=>(∃ v,e=.returned v)∧J W'∧RecAt l R D .ready W')
  (hd:∀ D W,w.heap.size≤D→J W→W.heap[D]?=some (.deferred (some []))→Q .normal { a with defers:={ target:=.collected D,args:=#[] } :: a.defers } W) :
  (Code.rangeFunc g ps assign body).wpIn Fence.wide n P Q a w:=by
 refine wpIn_rangeFunc ?_;intro fn _;have hen:=run_enterLoop_outer (P:=P) (w:=w) fn a.tmps ps assign body;obtain ⟨W1,hW1⟩:∃ W1,(w.alloc (.deferred (some []))).alloc (.loop (fF fn a.tmps ps assign body w.heap.size .ready))=W1:=⟨_,rfl⟩;have hR:RecAt (w.heap.size+1) (fF fn a.tmps ps assign body w.heap.size) w.heap.size .ready W1:=by
  rw [← hW1];refine ⟨?_,(zG _ _ _ (by simp)).trans (World.alloc_heap_new w _)⟩;have:=World.alloc_heap_new (w.alloc (.deferred (some []))) (.loop (fF fn a.tmps ps assign body w.heap.size .ready))
  rwa [World.size_alloc] at this
 have hb:Below w.heap.size w W1:=by rw [← hW1];exact ((zC _ w).alloc (zD _) _).alloc (by simp) _
 have hz:W1.heap.size=w.heap.size+2:=by rw [← hW1];simp
 have hc:=hi fn (w.heap.size+1) w.heap.size W1 _ rfl (Nat.le_succ _) (zD _) hb hz hR;rw [show Fence.wide.round=none from rfl];clear hi hb hz hR;refine ⟨w.heap.size+1,[{ target:=.collected w.heap.size,args:=#[] }],W1,{ target:=.fn (.func gf) lb,args:=#[.func (.yield (w.heap.size+1)) #[] #[]] },W1,gf,#[.func (.yield (w.heap.size+1)) #[] #[]] ++ lb,W1,?_,?_,fun _ _=>trivial,?_,fun h=>(by cases h),?_⟩
 ·rw [← hW1];exact hen
 ·simp only [resolve,hg];simp [go_sem]
 ·simp [invoke,go_sem,eg]
 ·refine hc.mono ?_;rintro e W2 ⟨⟨v,rfl⟩,hj,r2⟩;exact ⟨none,_,run_endLoop r2.lp (by show LoopState.ready≠.busy;simp),hd _ _ (zD _) (hJ _ _ _ _ (Nat.le_succ _) r2.lp hj) ((World.putObj_heap_other r2.ne).trans r2.df)⟩
def kG (ops:Array Oper):Bool:=ops.all fun o=>match o.op with | .defer _=>false | _=>true
theorem ni {P:Program} {n l:Nat} {o:Oper} {Q:Exit→Act→World→Prop} {K:Act→World→Prop} {a:Act} {w:World} (hd:∀ c,o.op≠.defer c) (h:o.wp P a w K Q):o.wpIn (Fence.wide.inRound l) n P a w K Q:=by
 refine ⟨fun _ _=>trivial,?_⟩;rw [Oper.semAt_eq _ _ _ hd];unfold Oper.wp at h;generalize (execOp a.eval o).run P w=r at h ⊢;cases r with
 | ok x w' =>
  cases x with
  | enter f args=>exact ⟨fun h=>(by cases h),CallsIn.inRound l (callsIn_wide.2 h)⟩
  | row row args=>exact ⟨fun h=>(by cases h),fun c cs hr=>let ⟨v,w'',r1,s⟩:=h c cs;⟨v,w'',r1,stepsIn_wide.2 s⟩⟩
  | round _ _ _ _ _=>exact h.elim
  | _=>exact h
 | halt x w'=>cases x<;>exact h
theorem rf {P:Program} {n l i:Nat} {ops:Array Oper} {Q:Exit→Act→World→Prop} {K:Act→World→Prop} {a:Act} {w:World} (hd:kG ops=true) (hQ:¬ LetsOut Q) (h:wpOp P ops Q i K a w):wpOpIn (Fence.wide.inRound l) n P ops Q i K a w:=by
 unfold wpOp at h;unfold wpOpIn;cases ho:ops[i]? with
 | none=>simpa [ho] using h
 | some o =>
  simp only [ho] at h ⊢;split
  ·rename_i hw
   simp only [hw,if_true] at h;have:=Array.all_eq_true_iff_forall_mem.1 hd o (Array.mem_of_getElem? ho)
   exact ni (fun c e=>by simp [e] at this) (h.resolve_right fun x=>hQ x.2)
  ·rename_i hw
   simp only [hw] at h;exact ⟨fun _ _=>trivial,h⟩
theorem j6 {P:Program} {n l:Nat} {md:Region.Mode} {ops:Array Oper} {Q:Exit→Act→World→Prop} (hd:kG ops=true) (hQ:¬ LetsOut Q):∀ (fuel:Nat) (listed:Array Bool) (a:Act) (w:World),
  wpAny P md ops Q fuel listed a w→wpAnyIn (Fence.wide.inRound l) n P md ops Q fuel listed a w
 | 0,_,_,_,h=>h
 | fuel+1,_,_,_,h=>⟨h.1,fun i hi=>wpOpIn_mono (fun a w h=>j6 hd hQ fuel _ a w h) (rf hd hQ (h.2 i hi))⟩
theorem gO {P:Program} {n l id:Nat} {ops:Array Oper} {Q:Exit→Act→World→Prop} {S:World→Prop} {a:Act} {w:World} (hm:P.follows .mixedOrders=true) (hd:kG ops=true) (hQ:¬ LetsOut Q)
  (h:wpAnyH P .any ops Q S ops.size (Array.replicate ops.size false) a w.drew):(Code.region id ops true).wpIn (Fence.wide.inRound l) n P Q a w :=
 wpIn_region_any hm (j6 hd hQ _ _ _ _ (wpAny_of_held _ _ _ _ h))
end Go.Proofs.YtjdgiimfpkideaaGreatDoor
namespace Go.Proofs.YtjdgiimfpkideaaGreatDoor
open Go.Proofs.Tryz
open Go.ChangeShapes Go.WideShapes Go.ChangeAt Go.RowKit
theorem jD:laidOutB prog=true:=by kernel_rfl
theorem vx {α:Type} {cs:Array α} (h:cs.size=6):∃ c0 c1 c2 c3 c4 c5,cs=#[c0,c1,c2,c3,c4,c5]:=by
 obtain ⟨l⟩:=cs;match l,h with
 | [c0,c1,c2,c3,c4,c5],_=>exact ⟨c0,c1,c2,c3,c4,c5,rfl⟩
theorem rx:prog.cellsOf 40=6:=by kernel_rfl
theorem oR:prog.cellsOf 4=1:=by kernel_rfl
theorem mf:prog.cellsOf 2=1:=by kernel_rfl
theorem oS:∃ fs:Array Field,prog.underlying 40=some (.struct fs)∧fs.toList.map (fun f=>(f.type,f.offset))=[(2,0),(2,1),(2,2),(4,3),(4,4),(4,5)] :=
 ⟨_,underlying40,rfl⟩
theorem mh {H:Type} {enc:TypeId × Value→H} {W:World} {base:Nat} {v:Value} {d:DataW H} {p:List MemPlace} (hv:Value.okWide prog W .any base 40 v)
  (h:DataW.Trod enc prog W 0 (fun _=>true) true 40 v d p) :
  ∃ (m a g:Int) (p c d:Bool),v=.agg #[.int .i64 m,.int .i64 a,.int .i64 g,.bool p,.bool c,.bool d]∧(-9223372036854775808≤m∧m≤9223372036854775807)∧(-9223372036854775808≤a∧a≤9223372036854775807)∧(-9223372036854775808≤g∧g≤9223372036854775807):=by
 obtain ⟨fs,hfs,hfl⟩:=oS;obtain ⟨cs,rfl,hsz⟩:=okWide_struct hfs hv;obtain ⟨c0,c1,c2,c3,c4,c5,rfl⟩:=vx (hsz.trans rx);obtain ⟨fuel,hf⟩:=h;obtain ⟨xs,n,_,_,hl,hlen,hfd⟩:=DataW.trod_struct hfs hf;have key:∀ (i:Nat) (T:TypeId) (o:Nat),(fs.toList.map fun f=>(f.type,f.offset))[i]?=some (T,o)→∃ x,DataW.trod enc prog W 0 (fun _=>true) true n T (([c0,c1,c2,c3,c4,c5].drop o).take (prog.cellsOf T))=some x:=by
  intro i T o hi;rw [List.getElem?_map,Option.map_eq_some_iff] at hi;obtain ⟨f,hf1,hf2⟩:=hi;simp only [Prod.mk.injEq] at hf2;obtain ⟨rfl,rfl⟩:=hf2;have hf3:fs[i]?=some f:=by rw [← Array.getElem?_toList];exact hf1
  have:=hfd i f hf3
  have hi2:i<fs.size:=(ge.1 hf3).1;exact ⟨xs[i]'(by omega),by rw [← List.getElem?_eq_getElem (by omega)];exact this⟩
 rw [hfl] at key;obtain ⟨x0,k0⟩:=key 0 _ _ rfl;obtain ⟨x1,k1⟩:=key 1 _ _ rfl;obtain ⟨x2,k2⟩:=key 2 _ _ rfl;obtain ⟨x3,k3⟩:=key 3 _ _ rfl;obtain ⟨x4,k4⟩:=key 4 _ _ rfl;obtain ⟨x5,k5⟩:=key 5 _ _ rfl;obtain ⟨n0,e0,_,w0⟩:=DataW.trod_int underlying2 k0;obtain ⟨n1,e1,_,w1⟩:=DataW.trod_int underlying2 k1;obtain ⟨n2,e2,_,w2⟩:=DataW.trod_int underlying2 k2;obtain ⟨b3,e3,_⟩:=DataW.trod_bool underlying4 k3;obtain ⟨b4,e4,_⟩:=DataW.trod_bool underlying4 k4;obtain ⟨b5,e5,_⟩:=DataW.trod_bool underlying4 k5;simp [oR] at e3 e4 e5;simp [mf] at e0 e1 e2;subst e0 e1 e2 e3 e4 e5;exact ⟨n0,n1,n2,b3,b4,b5,rfl,by simpa [Lit.wf,IntKind.min,IntKind.max,IntKind.signed,IntKind.bits] using w0,by simpa [Lit.wf,IntKind.min,IntKind.max,IntKind.signed,IntKind.bits] using w1,by simpa [Lit.wf,IntKind.min,IntKind.max,IntKind.signed,IntKind.bits] using w2⟩
end Go.Proofs.YtjdgiimfpkideaaGreatDoor
