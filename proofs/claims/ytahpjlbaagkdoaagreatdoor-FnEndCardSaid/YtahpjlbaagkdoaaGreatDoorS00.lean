/- Own Txt StrRow Ints OwnB Split FsmRow EvN LaidEv -/
import Derived.Test.YtahpjlbaagkdoaaGreatDoorShW
import Derived.Deep.DeepCutAuto
import Derived.Test.YtahpjlbaagkdoaaGreatDoorRows
import Derived.Lib.LaidU8
import Derived.Lay
import Derived.MakeChecks
import Derived.OpenVars
set_option maxHeartbeats 4000000
namespace Go.Proofs.YtahpjlbaagkdoaaGreatDoor
open Go.RowKit Go.Proofs.Tryz
theorem gen_world {P:Program} {c:Code} {Q:Exit→Act→World→Prop} {a:Act} {W:World} (R:World→Prop) (hW:R W) (h:∀ v,R v→Code.wp P c Q a v):Code.wp P c Q a W:=h W hW
theorem strOfNums_size (xs:List Int):(strOfNums xs).size=xs.length:=by simp [strOfNums,ByteArray.size]
theorem conv_own {w:World} {base:Nat} {v:Value} {n:Nat} {xs:List Int} (h:w.ownsRow base 5 1 v n (xs.map (Value.int .u8))) :
  (convert 22 9 v).run prog w=.ok (.string (strOfNums xs)) w:=by
 have hl:xs.length=n:=by have:=h.1;simpa using this
 rcases h.2 with ⟨rfl,rfl⟩ | ⟨g,cap,cur,rfl,h2,h3,h4,h5,h6,h7⟩
 ·rw [run_convert_bytes_nil (P:=prog) w 22 5 underlying22 underlying5 0 0 9 underlying9];have:xs=[]:=List.eq_nil_of_length_eq_zero hl
  subst this;rfl
 ·refine run_convert_bytes_arg (P:=prog) w 22 5 underlying22 underlying5 g 0 n cap xs hl (fun i hi=>?_) 9 underlying9;rw [cell_of_row w g (0+i) cur _ (0,0) h3];have e1:(cur.toList.take (n*1))[i]?=(xs.map (Value.int .u8))[i]?:=by rw [h7]
  rw [List.getElem?_take,if_pos (by omega),Array.getElem?_toList] at e1;rw [Nat.zero_add,e1];simp [List.getD,List.getElem?_eq_getElem (show i<xs.length by omega)]
theorem u8info:∃ i,prog.info? 5=some i∧i.zero=some (.int .u8 0)∧i.size=1∧i.bytes=1:=by
 have h:(prog.info? 5).map (fun i=>(i.zero,i.size,i.bytes))=some (some (.int .u8 0),1,1):=by kernel_rfl
 obtain ⟨i,hi,hzz⟩:=Option.map_eq_some_iff.1 h;simp only [Prod.mk.injEq] at hzz;exact ⟨i,hi,hzz.1,hzz.2.1,hzz.2.2⟩
def txt (l:List UInt8):ByteArray:=⟨l.toArray⟩
def nums (l:List UInt8):List Int:=l.map fun c=>(c.toNat:Int)
def vals (l:List UInt8):List Value:=(nums l).map (Value.int .u8)
theorem txt_nums (l:List UInt8):strOfNums (nums l)=txt l:=by
 unfold strOfNums nums txt;rw [List.map_map];congr 2
 conv=>rhs;rw [← List.map_id l]
 apply List.map_congr_left
 intro x _;simp
theorem txt_data (t:ByteArray):txt t.data.toList=t:=rfl
theorem data_txt (l:List UInt8):(txt l).data.toList=l:=rfl
theorem txt_size (l:List UInt8):(txt l).size=l.length:=by simp [txt,ByteArray.size]
theorem vals_len (l:List UInt8):(vals l).length=l.length:=by simp [vals,nums]
theorem vals_append (l m:List UInt8):vals (l ++ m)=vals l ++ vals m:=by simp [vals,nums]
theorem vals_two (c d:UInt8):vals [c,d]=[.int .u8 c.toNat,.int .u8 d.toNat]:=rfl
theorem u8_ne {c d:UInt8} (h:c≠d):((c.toNat:Int) == (d.toNat:Int))=false:=by
 refine beq_eq_false_iff_ne.2 fun e=>h (UInt8.toNat_inj.1 (by omega))
theorem own_conv {w:World} {base:Nat} {v:Value} {n:Nat} {l:List UInt8} (h:w.ownsRow base 5 1 v n (vals l)) :
  (convert 22 9 v).run prog w=.ok (.string (txt l)) w:=by
 rw [← txt_nums];exact conv_own h
theorem own_form {w:World} {base:Nat} {e:TypeId} {size:Nat} {v:Value} {n:Nat} {xs:List Value} (h:w.ownsRow base e size v n xs):∃ ad cp,v=.slice ad n cp:=by
 rcases h.2 with ⟨rfl,rfl⟩ | ⟨g,cap,cur,rfl,_⟩
 ·exact ⟨_,_,rfl⟩
 ·exact ⟨_,_,rfl⟩
theorem frz {w:World} {B:Nat} {cs:Array Value} {T:TypeId} (h:w.heap[B]?=some (.cells cs T)) (o:Nat):w.frozen? ⟨B,o,none⟩=false:=by simp [World.frozen?,h]
def scells (l:List ByteArray):List Value:=l.map Value.string
theorem scells_len (l:List ByteArray):(scells l).length=l.length:=by simp [scells]
theorem scells_append (l r:List ByteArray):scells (l ++ r)=scells l ++ scells r:=by simp [scells]
theorem scells_get (l:List ByteArray) (i:Nat) (t:ByteArray) (h:l[i]?=some t):(scells l)[i]?=some (.string t):=by simp [scells,h]
theorem sinfo:∃ i,prog.info? 9=some i∧i.zero=some (.string ⟨#[]⟩)∧i.size=1∧i.bytes=16:=by
 have h:(prog.info? 9).map (fun i=>(i.zero,i.size,i.bytes))=some (some (.string ⟨#[]⟩),1,16):=by kernel_rfl
 obtain ⟨i,hi,hzz⟩:=Option.map_eq_some_iff.1 h;simp only [Prod.mk.injEq] at hzz;exact ⟨i,hi,hzz.1,hzz.2.1,hzz.2.2⟩
def HoldsT (w:World) (v:Value) (L:List ByteArray):Prop :=
 (∃ ad cp,v=.slice ad 0 cp∧L=[])∨∃ g cp cur,v=.slice (some ⟨g,0,none⟩) L.length cp∧w.heap[g]?=some (.cells cur 9)∧L.length≤cur.size∧∀ j,j<L.length→cur[j]?=(scells L)[j]?
theorem HoldsT.own {w:World} {base:Nat} {v:Value} {L:List ByteArray} (h:w.ownsRow base 9 1 v L.length (scells L)):HoldsT w v L:=by
 rcases h.2 with ⟨h1,h2⟩ | ⟨g,cap,cur,h1,_,h3,h4,_,h6,h7⟩
 ·exact Or.inl ⟨_,_,h1,List.eq_nil_of_length_eq_zero h2⟩
 ·refine Or.inr ⟨g,cap,cur,h1,h3,by rw [h6];omega,fun j hj=>?_⟩;rw [← h7,List.getElem?_take,if_pos (by omega),Array.getElem?_toList]
theorem HoldsT.below {n:Nat} {w w':World} {v:Value} {L:List ByteArray} (h:HoldsT w v L) (hb:Below n w w') (hn:n=w.heap.size):HoldsT w' v L:=by
 subst hn;exact h.imp id fun ⟨g,cp,cur,h1,h2,h3⟩=>⟨g,cp,cur,h1,(hb.block g (ge.1 h2).1).trans h2,h3⟩
theorem HoldsT.form {w:World} {v:Value} {L:List ByteArray} (h:HoldsT w v L):∃ ad cp,v=.slice ad L.length cp:=by
 rcases h with ⟨ad,cp,h1,h2⟩ | ⟨g,cp,cur,h1,_⟩
 ·exact ⟨ad,cp,by rw [h1,h2];rfl⟩
 ·exact ⟨_,_,h1⟩
theorem append_txt {wr:World} {ops:Array Oper} {rest:List Oper} {o:Oper} {a:Act} {Q:Exit→Act→World→Prop} (hgd:o.guard=none) (s x:Operand)
  (ho:o.op=.call { callee:=.builtin .append,args:=#[s,x],argTypes:=#[40,40] })
  (base:Nat) (v:Value) (L:List ByteArray) (n:Nat) (hn:L.length=n) (hs:a.eval s=v) (hown:wr.ownsRow base 9 1 v n (scells L)) (t:ByteArray) (hx:a.eval x=.slice (some ⟨wr.heap.size,0,none⟩) 1 1) (hlen:n≤1000000) (hbase:base≤wr.heap.size)
  (h:∀ v' w',w'.ownsRow base 9 1 v' (n+1) (scells (L ++ [t]))→(wr.alloc (.cells #[.string t] 9)).grownBy w' v.ownBlock→wpList prog ops Q rest (a.put o.dst v') w'):wpList prog ops Q (o :: rest) a (wr.alloc (.cells #[.string t] 9)):=by
 obtain ⟨i0,hi0,hz0,hz1,hz2⟩:=sinfo;refine wpList_append_own _ hgd s x 40 ho base 9 i0 _ 1 16 underlying40 hi0 hz0 hz1 hz2 rfl (by decide) v n (scells L) hs (hown.alloc _) ⟨wr.heap.size,0,none⟩ 1 1 [.string t] hx rfl ?_ ?_ ?_ ?_ ?_ ?_
 ·intro i u hu;rw [Addr.add_lit,Nat.zero_add,World.cell?_alloc_at _ _ _ _ rfl,← hu];simp
 ·intro u hu;simp only [List.mem_cons,List.not_mem_nil,or_false] at hu;rw [hu];rfl
 ·unfold maxLen;omega
 ·omega
 ·simp;omega
 ·intro v' w2 hown2 hg2 _;refine h v' w2 ?_ hg2;rw [scells_append];exact hown2
theorem i64_and_nat (a b:Nat) (ha:a<4294967296) (hb:b<4294967296):bits .and .i64 (a:Int) (b:Int)=((a &&& b:Nat):Int):=by
 have h3:a &&& b≤a:=Nat.and_le_left;show IntKind.i64.wrap ((BitVec.ofInt 64 (a:Int) &&& BitVec.ofInt 64 (b:Int)).toNat:Int)=_
 rw [BitVec.toNat_and,ofInt_u64 a (by omega),ofInt_u64 b (by omega),IntKind.wrap_i64];omega
structure Nr (B:Nat) (w w':World):Prop where
 os:w'.os=w.os
 tape:w'.tape=w.tape
 output:w'.output=w.output
 size:w.heap.size≤w'.heap.size
 block:∀ k,k<w.heap.size→k≠B→w'.heap[k]?=w.heap[k]?
theorem Nr.refl (B:Nat) (w:World):Nr B w w:=⟨rfl,rfl,rfl,Nat.le_refl _,fun _ _ _=>rfl⟩
theorem Nr.trans {B:Nat} {a b c:World} (h:Nr B a b) (k:Nr B b c):Nr B a c :=
 ⟨k.os.trans h.os,k.tape.trans h.tape,k.output.trans h.output,Nat.le_trans h.size k.size,fun i hi hn=>(k.block i (Nat.lt_of_lt_of_le hi h.size) hn).trans (h.block i hi hn)⟩
theorem Nr.drew {B:Nat} {a w:World} (h:Nr B a w):Nr B a w.drew:=⟨h.os,h.tape,h.output,h.size,h.block⟩
theorem Nr.drewN {B:Nat} {a w:World} (h:Nr B a w) (k:Nat):Nr B a (w.drewN k):=⟨h.os,h.tape,h.output,h.size,h.block⟩
theorem Nr.setCell {B:Nat} {a w:World} (h:Nr B a w) (o:Nat) (v:Value):Nr B a (w.setCell ⟨B,o,none⟩ v):=by
 have hb:=(Below.refl 0 w).setCell (p:=⟨B,o,none⟩) (Nat.zero_le _) v;exact ⟨hb.os.trans h.os,hb.tape.trans h.tape,hb.output.trans h.output,Nat.le_trans h.size hb.size,fun k hk hn=>(Below.heap_setCell w ⟨B,o,none⟩ v k hn).trans (h.block k hk hn)⟩
theorem Nr.of_below {B:Nat} {a w w':World} (h:Nr B a w) (hb:Below w.heap.size w w'):Nr B a w' :=
 h.trans ⟨hb.os,hb.tape,hb.output,hb.size,fun k hk _=>hb.block k hk⟩
theorem Nr.alloc {B:Nat} {a w:World} (h:Nr B a w) (o:Obj):Nr B a (w.alloc o):=h.of_below ((Below.refl _ _).alloc (Nat.le_refl _) _)
theorem Nr.below {B n:Nat} {w w':World} (h:Nr B w w') (hn:n≤B) (hw:n≤w.heap.size):Below n w w' :=
 ⟨h.os,h.tape,h.output,h.size,fun k hk=>h.block k (by omega) (by omega)⟩
theorem own_same {w w':World} {base:Nat} {e:TypeId} {size:Nat} {v:Value} {n:Nat} {xs:List Value} (h:w.ownsRow base e size v n xs) (hb:∀ g,base≤g→g<w.heap.size→w'.heap[g]?=w.heap[g]?):w'.ownsRow base e size v n xs :=
 ⟨h.1,h.2.imp id fun ⟨g,cap,cur,h1,h2,h3,h4⟩=>⟨g,cap,cur,h1,h2,(hb g h2 (ge.1 h3).1).trans h3,h4⟩⟩
structure But (o:Option Nat) (w w':World):Prop where
 os:w'.os=w.os
 tape:w'.tape=w.tape
 output:w'.output=w.output
 size:w.heap.size≤w'.heap.size
 block:∀ b,b<w.heap.size→o≠some b→w'.heap[b]?=w.heap[b]?
theorem But.of_below {o:Option Nat} {w w':World} (h:Below w.heap.size w w'):But o w w':=⟨h.os,h.tape,h.output,h.size,fun b hb _=>h.block b hb⟩
def splitE (t:ByteArray) (by_:UInt8) (fr i:Nat):Nat→List ByteArray
 | 0=>[t.extract fr t.size]
 | n+1=>if (t.data.toList[i]?).getD 0 == by_ then t.extract fr i :: splitE t by_ (i+1) (i+1) n else splitE t by_ fr (i+1) n
def splitOf (t:ByteArray) (by_:UInt8):List ByteArray:=splitE t by_ 0 0 t.size
theorem specSplit (t:ByteArray) (by_:UInt8) (w:World) (ht:t.size≤100000) :
  Calls prog 119 #[.string t,.int .u8 by_.toNat] w fun e w'=>∃ ad cp,e=.returned (.slice ad (splitOf t by_).length cp)∧w'.ownsRow w.heap.size 9 1 (.slice ad (splitOf t by_).length cp) (splitOf t by_).length (scells (splitOf t by_))∧Below w.heap.size w w':=by
 have hw0:(w.alloc (.cells #[] 9)).ownsRow w.heap.size 9 1 (.slice (some ⟨w.heap.size,0,none⟩) 0 0) ([]:List ByteArray).length (scells []):=World.ownsRow_lit w #[] 0 (Nat.le_refl _) (Nat.zero_le _) rfl;have hb0:Below w.heap.size w (w.alloc (.cells #[] 9)):=(Below.refl _ _).alloc (Nat.le_refl _) _;have HS:Hid (splitE t by_ 0 0 (t.size - 0)=splitOf t by_):=hide rfl;have H0:=hide (And.intro hw0 hb0);generalize splitOf t by_=S at *;clear hw0 hb0;go_enter func119,ntmps119
 go_wp2_with fail
 go_loopw [5,6,7] (fun x y z wr=>∃ (i fr:Nat) (ad:Option Addr) (cp:Nat) (L:List ByteArray),i≤t.size∧fr≤i∧z=.int .i64 i∧y=.int .i64 fr∧x=.slice ad L.length cp∧L.length≤i∧L ++ splitE t by_ fr i (t.size - i)=S∧wr.ownsRow w.heap.size 9 1 (.slice ad L.length cp) L.length (scells L)∧Below w.heap.size w wr) (fun _ _ z _=>t.size - (intOf z).toNat)
 case atStart=>exact ⟨0,0,_,_,[],Nat.zero_le _,Nat.le_refl _,rfl,rfl,rfl,Nat.le_refl _,uh HS,(uh H0).1,(uh H0).2⟩
 case round =>
  obtain ⟨i,fr,ad,cp,L,hi,hfr,rfl,rfl,rfl,hLl,hS,ho,hb⟩:=hrel;clear H0 HS;have hbs:=hb.size;have d3:(0:Int)≤(fr:Int):=by omega
  have d4:(fr:Int)≤(i:Int):=by omega
  have d5:(i:Int)≤(t.size:Int):=by omega
  have d6:(fr:Int)≤(t.size:Int):=by omega
  have HO:=hide ho;have HB:=hide hb;have HSS:=hide hS;clear ho hb hS;by_cases hlt:i<t.size
  ·have d1:(i:Int)<(t.size:Int):=by omega
   have hget:(t.data.toList[i]?).getD 0=t[i]:=by
    rw [List.getElem?_eq_getElem (by rw [Array.length_toList];exact hlt)];rfl
   have HE:Hid (splitE t by_ fr i (t.size - i)=if t[i] == by_ then t.extract fr i :: splitE t by_ (i+1) (i+1) (t.size - (i+1)) else splitE t by_ fr (i+1) (t.size - (i+1))):=hide (by
    rw [show t.size - i=(t.size - (i+1))+1 by omega];simp only [splitE];rw [hget])
   clear hget;cases hq:(t[i] == by_)
   ·have hqi:((t[i].toNat:Int) == (by_.toNat:Int))=false:=u8_ne (by simpa using hq);rw [hq,if_neg (by decide)] at HE;go_wp2_with fail
    go_roundw
    case rel=>exact ⟨i+1,fr,ad,cp,L,by omega,by omega,by go_num,rfl,rfl,by omega,by rw [← uh HE];exact uh HSS,uh HO,uh HB⟩
    case measure=>simp [intOf];omega
   ·have hqi:((t[i].toNat:Int) == (by_.toNat:Int))=true:=by rw [eq_of_beq hq];exact beq_self_eq_true _
    rw [hq,if_pos rfl] at HE
    go_wp2_with (first
     | (at_builtin;refine append_txt rfl _ _ rfl w.heap.size (.slice ad L.length cp) L L.length rfl rfl (uh HO) (t.extract fr i) rfl (by omega) hbs ?_;rintro v6 w6 ho6 hg6;obtain ⟨a6,c6,rfl⟩:=own_form ho6))
    have hb6:Below w.heap.size w w6:=((uh HB).alloc hbs _).grown hg6 (by simp;omega) (fun q hq=>(World.ownsRow.lt (uh HO) q hq).1);go_roundw
    case rel =>
     have hl1:L.length+1=(L ++ [t.extract fr i]).length:=by rw [List.length_append];rfl
     refine ⟨i+1,i+1,a6,c6,L ++ [t.extract fr i],by omega,by omega,by go_num,by go_num,by rw [← hl1],by rw [← hl1];omega,?_,by rw [← hl1];exact ho6,hb6⟩;rw [← uh HSS,uh HE,List.append_assoc];rfl
    case measure=>simp [intOf];omega
  ·have e:i=t.size:=by omega
   subst e;have d1:¬ ((t.size:Int)<(t.size:Int)):=by omega
   have HE:Hid (L ++ [t.extract fr t.size]=S):=hide (by rw [← uh HSS,Nat.sub_self];rfl);clear HSS
   go_wp2_with (first
    | (at_builtin;refine append_txt rfl _ _ rfl w.heap.size (.slice ad L.length cp) L L.length rfl rfl (uh HO) (t.extract fr t.size) rfl (by omega) hbs ?_;rintro v6 w6 ho6 hg6;obtain ⟨a6,c6,rfl⟩:=own_form ho6))
   have hb6:Below w.heap.size w w6:=((uh HB).alloc hbs _).grown hg6 (by simp;omega) (fun q hq=>(World.ownsRow.lt (uh HO) q hq).1);go_ret
   have hl1:L.length+1=S.length:=by rw [← uh HE,List.length_append];rfl
   refine ⟨a6,c6,by rw [← hl1];rfl,?_,hb6⟩;rw [← hl1,← uh HE];exact ho6
def evRow:List (List UInt8 × List UInt8):=[([85,112],[47,50,44,105,114,99,32,115,99,114,47,54,44,45,44,45,44,45,44,45,44,45,44,45,44,45,44,45]),
 ([68,111,119,110],[45,44,45,44,47,48,44,116,108,115,47,49,44,47,48,44,47,49,44,47,49,44,47,49,44,47,49,44,116,108,100,47,49]),
 ([79,112,101,110],[116,108,115,47,49,44,47,49,44,105,114,99,32,115,99,114,47,54,44,47,51,44,47,53,44,47,53,44,47,54,44,47,55,44,47,56,44,47,57]),
 ([67,108,111,115,101],[47,48,44,116,108,102,47,48,44,47,50,44,47,50,44,47,52,44,47,52,44,105,114,99,32,115,116,114,47,52,44,105,114,99,32,115,116,114,47,52,44,105,114,99,32,115,116,114,47,52,44,116,108,100,32,105,114,99,32,115,116,114,47,52]),
 ([84,79,43],[45,44,45,44,45,44,45,44,115,116,114,47,52,44,115,116,114,47,53,44,115,99,114,47,54,44,115,99,114,47,54,44,115,99,114,47,56,44,45]),
 ([84,79,45],[45,44,45,44,45,44,45,44,116,108,102,47,50,44,116,108,102,47,51,44,116,108,102,47,51,44,116,108,102,47,51,44,116,108,102,47,51,44,45]),
 ([82,67,82,43],[45,44,45,44,115,116,97,47,50,44,105,114,99,32,115,99,114,32,115,99,97,47,56,44,47,52,44,47,53,44,115,99,97,47,56,44,115,99,97,32,116,108,117,47,57,44,115,99,97,47,56,44,116,108,100,32,115,99,114,32,115,99,97,47,56]),
 ([82,67,82,45],[45,44,45,44,115,116,97,47,50,44,105,114,99,32,115,99,114,32,115,99,110,47,54,44,47,52,44,47,53,44,115,99,110,47,54,44,115,99,110,47,55,44,115,99,110,47,54,44,116,108,100,32,115,99,114,32,115,99,110,47,54]),
 ([82,67,65],[45,44,45,44,115,116,97,47,50,44,115,116,97,47,51,44,47,52,44,47,53,44,105,114,99,47,55,44,115,99,114,47,54,44,105,114,99,32,116,108,117,47,57,44,116,108,100,32,115,99,114,47,54]),
 ([82,67,78],[45,44,45,44,115,116,97,47,50,44,115,116,97,47,51,44,47,52,44,47,53,44,105,114,99,32,115,99,114,47,54,44,115,99,114,47,54,44,105,114,99,32,115,99,114,47,56,44,116,108,100,32,115,99,114,47,54]),
 ([82,84,82],[45,44,45,44,115,116,97,47,50,44,115,116,97,47,51,44,115,116,97,47,52,44,115,116,97,47,53,44,115,116,97,47,54,44,115,116,97,47,54,44,115,116,97,47,54,44,116,108,100,32,122,114,99,32,115,116,97,47,53]),
 ([82,84,65],[45,44,45,44,47,50,44,47,51,44,116,108,102,47,50,44,116,108,102,47,51,44,47,54,44,47,54,44,47,56,44,116,108,100,32,115,99,114,47,54]),
 ([82,85,67],[45,44,45,44,115,99,106,47,50,44,115,99,106,47,51,44,115,99,106,47,52,44,115,99,106,47,53,44,115,99,106,47,54,44,115,99,106,47,55,44,115,99,106,47,56,44,115,99,106,47,57]),
 ([82,88,74,43],[45,44,45,44,47,50,44,47,51,44,47,52,44,47,53,44,47,54,44,47,54,44,47,56,44,47,57]),
 ([82,88,74,45],[45,44,45,44,116,108,102,47,50,44,116,108,102,47,51,44,116,108,102,47,50,44,116,108,102,47,51,44,116,108,102,47,51,44,116,108,102,47,51,44,116,108,102,47,51,44,116,108,100,32,105,114,99,32,115,116,114,47,53]),
 ([82,88,82],[45,44,45,44,47,50,44,47,51,44,47,52,44,47,53,44,47,54,44,47,55,44,47,56,44,115,101,114,47,57])]
def rowOf (t:ByteArray):ByteArray:=txt (((evRow.find? fun x=>x.1 == t.toList).map fun x=>x.2).getD [])
def evTexts:List ByteArray:=evRow.map fun x=>txt x.1
theorem txt_of {t:ByteArray} {l:List UInt8} (h:t.toList=l):t=txt l:=by
 rw [ByteArray.toList_eq] at h;rw [← h];rfl
theorem specRow (t:ByteArray) (w:World):Calls prog 118 #[.string t] w fun e w'=>e=.returned (.string (rowOf t))∧w'=w:=by
 by_cases h0:t.toList=[85,112]
 ·have hr:rowOf t=⟨#[47,50,44,105,114,99,32,115,99,114,47,54,44,45,44,45,44,45,44,45,44,45,44,45,44,45,44,45]⟩:=by
   unfold rowOf;rw [h0];rfl
  rw [hr,show t=⟨#[85,112]⟩ from txt_of h0];clear hr;go_enter func118,ntmps118
  go_wp2
  go_ret
  exact ⟨rfl,rfl⟩
 by_cases h1:t.toList=[68,111,119,110]
 ·have hr:rowOf t=⟨#[45,44,45,44,47,48,44,116,108,115,47,49,44,47,48,44,47,49,44,47,49,44,47,49,44,47,49,44,116,108,100,47,49]⟩:=by
   unfold rowOf;rw [h1];rfl
  rw [hr,show t=⟨#[68,111,119,110]⟩ from txt_of h1];clear hr;go_enter func118,ntmps118
  go_wp2
  go_ret
  exact ⟨rfl,rfl⟩
 by_cases h2:t.toList=[79,112,101,110]
 ·have hr:rowOf t=⟨#[116,108,115,47,49,44,47,49,44,105,114,99,32,115,99,114,47,54,44,47,51,44,47,53,44,47,53,44,47,54,44,47,55,44,47,56,44,47,57]⟩:=by
   unfold rowOf;rw [h2];rfl
  rw [hr,show t=⟨#[79,112,101,110]⟩ from txt_of h2];clear hr;go_enter func118,ntmps118
  go_wp2
  go_ret
  exact ⟨rfl,rfl⟩
 by_cases h3:t.toList=[67,108,111,115,101]
 ·have hr:rowOf t=⟨#[47,48,44,116,108,102,47,48,44,47,50,44,47,50,44,47,52,44,47,52,44,105,114,99,32,115,116,114,47,52,44,105,114,99,32,115,116,114,47,52,44,105,114,99,32,115,116,114,47,52,44,116,108,100,32,105,114,99,32,115,116,114,47,52]⟩:=by
   unfold rowOf;rw [h3];rfl
  rw [hr,show t=⟨#[67,108,111,115,101]⟩ from txt_of h3];clear hr;go_enter func118,ntmps118
  go_wp2
  go_ret
  exact ⟨rfl,rfl⟩
 by_cases h4:t.toList=[84,79,43]
 ·have hr:rowOf t=⟨#[45,44,45,44,45,44,45,44,115,116,114,47,52,44,115,116,114,47,53,44,115,99,114,47,54,44,115,99,114,47,54,44,115,99,114,47,56,44,45]⟩:=by
   unfold rowOf;rw [h4];rfl
  rw [hr,show t=⟨#[84,79,43]⟩ from txt_of h4];clear hr;go_enter func118,ntmps118
  go_wp2
  go_ret
  exact ⟨rfl,rfl⟩
 by_cases h5:t.toList=[84,79,45]
 ·have hr:rowOf t=⟨#[45,44,45,44,45,44,45,44,116,108,102,47,50,44,116,108,102,47,51,44,116,108,102,47,51,44,116,108,102,47,51,44,116,108,102,47,51,44,45]⟩:=by
   unfold rowOf;rw [h5];rfl
  rw [hr,show t=⟨#[84,79,45]⟩ from txt_of h5];clear hr;go_enter func118,ntmps118
  go_wp2
  go_ret
  exact ⟨rfl,rfl⟩
 by_cases h6:t.toList=[82,67,82,43]
 ·have hr:rowOf t=⟨#[45,44,45,44,115,116,97,47,50,44,105,114,99,32,115,99,114,32,115,99,97,47,56,44,47,52,44,47,53,44,115,99,97,47,56,44,115,99,97,32,116,108,117,47,57,44,115,99,97,47,56,44,116,108,100,32,115,99,114,32,115,99,97,47,56]⟩:=by
   unfold rowOf;rw [h6];rfl
  rw [hr,show t=⟨#[82,67,82,43]⟩ from txt_of h6];clear hr;go_enter func118,ntmps118
  go_wp2
  go_ret
  exact ⟨rfl,rfl⟩
 by_cases h7:t.toList=[82,67,82,45]
 ·have hr:rowOf t=⟨#[45,44,45,44,115,116,97,47,50,44,105,114,99,32,115,99,114,32,115,99,110,47,54,44,47,52,44,47,53,44,115,99,110,47,54,44,115,99,110,47,55,44,115,99,110,47,54,44,116,108,100,32,115,99,114,32,115,99,110,47,54]⟩:=by
   unfold rowOf;rw [h7];rfl
  rw [hr,show t=⟨#[82,67,82,45]⟩ from txt_of h7];clear hr;go_enter func118,ntmps118
  go_wp2
  go_ret
  exact ⟨rfl,rfl⟩
 by_cases h8:t.toList=[82,67,65]
 ·have hr:rowOf t=⟨#[45,44,45,44,115,116,97,47,50,44,115,116,97,47,51,44,47,52,44,47,53,44,105,114,99,47,55,44,115,99,114,47,54,44,105,114,99,32,116,108,117,47,57,44,116,108,100,32,115,99,114,47,54]⟩:=by
   unfold rowOf;rw [h8];rfl
  rw [hr,show t=⟨#[82,67,65]⟩ from txt_of h8];clear hr;go_enter func118,ntmps118
  go_wp2
  go_ret
  exact ⟨rfl,rfl⟩
 by_cases h9:t.toList=[82,67,78]
 ·have hr:rowOf t=⟨#[45,44,45,44,115,116,97,47,50,44,115,116,97,47,51,44,47,52,44,47,53,44,105,114,99,32,115,99,114,47,54,44,115,99,114,47,54,44,105,114,99,32,115,99,114,47,56,44,116,108,100,32,115,99,114,47,54]⟩:=by
   unfold rowOf;rw [h9];rfl
  rw [hr,show t=⟨#[82,67,78]⟩ from txt_of h9];clear hr;go_enter func118,ntmps118
  go_wp2
  go_ret
  exact ⟨rfl,rfl⟩
 by_cases h10:t.toList=[82,84,82]
 ·have hr:rowOf t=⟨#[45,44,45,44,115,116,97,47,50,44,115,116,97,47,51,44,115,116,97,47,52,44,115,116,97,47,53,44,115,116,97,47,54,44,115,116,97,47,54,44,115,116,97,47,54,44,116,108,100,32,122,114,99,32,115,116,97,47,53]⟩:=by
   unfold rowOf;rw [h10];rfl
  rw [hr,show t=⟨#[82,84,82]⟩ from txt_of h10];clear hr;go_enter func118,ntmps118
  go_wp2
  go_ret
  exact ⟨rfl,rfl⟩
 by_cases h11:t.toList=[82,84,65]
 ·have hr:rowOf t=⟨#[45,44,45,44,47,50,44,47,51,44,116,108,102,47,50,44,116,108,102,47,51,44,47,54,44,47,54,44,47,56,44,116,108,100,32,115,99,114,47,54]⟩:=by
   unfold rowOf;rw [h11];rfl
  rw [hr,show t=⟨#[82,84,65]⟩ from txt_of h11];clear hr;go_enter func118,ntmps118
  go_wp2
  go_ret
  exact ⟨rfl,rfl⟩
 by_cases h12:t.toList=[82,85,67]
 ·have hr:rowOf t=⟨#[45,44,45,44,115,99,106,47,50,44,115,99,106,47,51,44,115,99,106,47,52,44,115,99,106,47,53,44,115,99,106,47,54,44,115,99,106,47,55,44,115,99,106,47,56,44,115,99,106,47,57]⟩:=by
   unfold rowOf;rw [h12];rfl
  rw [hr,show t=⟨#[82,85,67]⟩ from txt_of h12];clear hr;go_enter func118,ntmps118
  go_wp2
  go_ret
  exact ⟨rfl,rfl⟩
 by_cases h13:t.toList=[82,88,74,43]
 ·have hr:rowOf t=⟨#[45,44,45,44,47,50,44,47,51,44,47,52,44,47,53,44,47,54,44,47,54,44,47,56,44,47,57]⟩:=by
   unfold rowOf;rw [h13];rfl
  rw [hr,show t=⟨#[82,88,74,43]⟩ from txt_of h13];clear hr;go_enter func118,ntmps118
  go_wp2
  go_ret
  exact ⟨rfl,rfl⟩
 by_cases h14:t.toList=[82,88,74,45]
 ·have hr:rowOf t=⟨#[45,44,45,44,116,108,102,47,50,44,116,108,102,47,51,44,116,108,102,47,50,44,116,108,102,47,51,44,116,108,102,47,51,44,116,108,102,47,51,44,116,108,102,47,51,44,116,108,100,32,105,114,99,32,115,116,114,47,53]⟩:=by
   unfold rowOf;rw [h14];rfl
  rw [hr,show t=⟨#[82,88,74,45]⟩ from txt_of h14];clear hr;go_enter func118,ntmps118
  go_wp2
  go_ret
  exact ⟨rfl,rfl⟩
 by_cases h15:t.toList=[82,88,82]
 ·have hr:rowOf t=⟨#[45,44,45,44,47,50,44,47,51,44,47,52,44,47,53,44,47,54,44,47,55,44,47,56,44,115,101,114,47,57]⟩:=by
   unfold rowOf;rw [h15];rfl
  rw [hr,show t=⟨#[82,88,82]⟩ from txt_of h15];clear hr;go_enter func118,ntmps118
  go_wp2
  go_ret
  exact ⟨rfl,rfl⟩
 have e0:(t.toList == [85,112])=false:=beq_eq_false_iff_ne.2 h0;have e1:(t.toList == [68,111,119,110])=false:=beq_eq_false_iff_ne.2 h1;have e2:(t.toList == [79,112,101,110])=false:=beq_eq_false_iff_ne.2 h2;have e3:(t.toList == [67,108,111,115,101])=false:=beq_eq_false_iff_ne.2 h3;have e4:(t.toList == [84,79,43])=false:=beq_eq_false_iff_ne.2 h4;have e5:(t.toList == [84,79,45])=false:=beq_eq_false_iff_ne.2 h5;have e6:(t.toList == [82,67,82,43])=false:=beq_eq_false_iff_ne.2 h6;have e7:(t.toList == [82,67,82,45])=false:=beq_eq_false_iff_ne.2 h7;have e8:(t.toList == [82,67,65])=false:=beq_eq_false_iff_ne.2 h8;have e9:(t.toList == [82,67,78])=false:=beq_eq_false_iff_ne.2 h9;have e10:(t.toList == [82,84,82])=false:=beq_eq_false_iff_ne.2 h10;have e11:(t.toList == [82,84,65])=false:=beq_eq_false_iff_ne.2 h11;have e12:(t.toList == [82,85,67])=false:=beq_eq_false_iff_ne.2 h12;have e13:(t.toList == [82,88,74,43])=false:=beq_eq_false_iff_ne.2 h13;have e14:(t.toList == [82,88,74,45])=false:=beq_eq_false_iff_ne.2 h14;have e15:(t.toList == [82,88,82])=false:=beq_eq_false_iff_ne.2 h15;have g0:([85,112] == t.toList)=false:=beq_eq_false_iff_ne.2 (Ne.symm h0);have g1:([68,111,119,110] == t.toList)=false:=beq_eq_false_iff_ne.2 (Ne.symm h1);have g2:([79,112,101,110] == t.toList)=false:=beq_eq_false_iff_ne.2 (Ne.symm h2);have g3:([67,108,111,115,101] == t.toList)=false:=beq_eq_false_iff_ne.2 (Ne.symm h3);have g4:([84,79,43] == t.toList)=false:=beq_eq_false_iff_ne.2 (Ne.symm h4);have g5:([84,79,45] == t.toList)=false:=beq_eq_false_iff_ne.2 (Ne.symm h5);have g6:([82,67,82,43] == t.toList)=false:=beq_eq_false_iff_ne.2 (Ne.symm h6);have g7:([82,67,82,45] == t.toList)=false:=beq_eq_false_iff_ne.2 (Ne.symm h7);have g8:([82,67,65] == t.toList)=false:=beq_eq_false_iff_ne.2 (Ne.symm h8);have g9:([82,67,78] == t.toList)=false:=beq_eq_false_iff_ne.2 (Ne.symm h9);have g10:([82,84,82] == t.toList)=false:=beq_eq_false_iff_ne.2 (Ne.symm h10);have g11:([82,84,65] == t.toList)=false:=beq_eq_false_iff_ne.2 (Ne.symm h11);have g12:([82,85,67] == t.toList)=false:=beq_eq_false_iff_ne.2 (Ne.symm h12);have g13:([82,88,74,43] == t.toList)=false:=beq_eq_false_iff_ne.2 (Ne.symm h13);have g14:([82,88,74,45] == t.toList)=false:=beq_eq_false_iff_ne.2 (Ne.symm h14);have g15:([82,88,82] == t.toList)=false:=beq_eq_false_iff_ne.2 (Ne.symm h15);have hr:rowOf t=⟨#[]⟩:=by
  unfold rowOf evRow;simp only [List.find?_cons,g0,g1,g2,g3,g4,g5,g6,g7,g8,g9,g10,g11,g12,g13,g14,g15,List.find?_nil];rfl
 rw [hr];clear hr g0 g1 g2 g3 g4 g5 g6 g7 g8 g9 g10 g11 g12 g13 g14 g15 h0 h1 h2 h3 h4 h5 h6 h7 h8 h9 h10 h11 h12 h13 h14 h15;go_enter func118,ntmps118
 go_wp2
 go_ret
 exact ⟨rfl,rfl⟩
def okX (x:ByteArray):Bool:=decide (1≤x.size) && decide (x.size≤30) && (decide (48≤(x.data.toList.getLastD 0).toNat) && decide ((x.data.toList.getLastD 0).toNat≤57) || x.data.toList == [45])
def okRow (r:List UInt8):Bool:=decide ((splitOf (txt r) 44).length=10) && (splitOf (txt r) 44).all okX && decide (1≤r.length) && decide (r.length≤200)
theorem ok_rows:(evRow.all fun x=>okRow x.2)=true:=by kernel_rfl
theorem rowOf_ok (t:ByteArray):rowOf t=⟨#[]⟩∨okRow (rowOf t).data.toList=true:=by
 unfold rowOf;cases h:evRow.find? fun x=>x.1 == t.toList with
 | none=>left;rfl
 | some x=>right;exact List.all_eq_true.1 ok_rows x (List.mem_of_find?_eq_some h)
def EvT (w:World):Prop:=∀ (i:Nat) (t:ByteArray),evTexts[i]?=some t→w.cell? ⟨0,i,none⟩=some (.string t)
theorem EvT.below {w w':World} (h:EvT w) (hb:Below w.heap.size w w'):EvT w':=fun i t ht=>(hb.cell (p:=⟨0,i,none⟩) (World.block_lt_of_cell? _ _ (h i t ht))).trans (h i t ht)
theorem evTexts_len:evTexts.length=16:=rfl
theorem evNum (t:ByteArray) (w:World) (hT:EvT w):Calls prog 38 #[.string t] w fun e w'=>w'=w∧((∃ i:Nat,evTexts[i]?=some t∧e=.returned (.tuple #[.int .i64 i,.bool true]))∨((∀ i:Nat,evTexts[i]?≠some t)∧e=.returned (.tuple #[.int .i64 0,.bool false]))):=by
 have hl:=evTexts_len;have HT:Hid (∀ (i:Nat) (h:i<evTexts.length),w.cell? ⟨0,i,none⟩=some (.string evTexts[i])):=hide fun i h=>hT i _ (List.getElem?_eq_getElem h)
 clear hT;generalize evTexts=L at *;go_enter func38,ntmps38
 go_wp2_with fail
 go_loop [4,5] (fun x y=>∃ (i:Nat),i≤16∧y=.int .i64 i∧∀ j:Nat,j<i→L[j]?≠some t) (fun x y=>16 - (intOf y).toNat)
 case atStart=>exact ⟨0,Nat.zero_le _,rfl,fun j h=>absurd h (Nat.not_lt_zero _)⟩
 case round =>
  obtain ⟨i,hi,rfl,hf⟩:=hrel;have HF:=hide hf;clear hf;by_cases hlt:i<16
  ·have d1:(i:Int)<16:=by omega
   have d0:(0:Int)≤(i:Int):=by omega
   have k1:=uh HT i (by omega);obtain ⟨x,hx⟩:∃ x,L[i]'(by omega)=x:=⟨_,rfl⟩;rw [hx] at k1;have HX:Hid (L[i]?=some x):=hide (by rw [List.getElem?_eq_getElem (by omega),hx]);clear hx HT;cases hq:(x.toList == t.toList)
   ·go_wp2_with fail
    go_round
    case rel =>
     refine ⟨i+1,by omega,by go_num,fun j hj e=>?_⟩;by_cases hji:j<i
     ·exact uh HF j hji e
     ·have:j=i:=by omega
      subst this;rw [uh HX] at e;rw [Option.some.inj e,beq_self_eq_true] at hq;cases hq
    case measure=>simp [intOf];omega
   ·have hxt:x=t:=by
     have:=eq_of_beq hq
     rw [ByteArray.toList_eq,ByteArray.toList_eq] at this;exact ByteArray.ext (Array.toList_inj.1 this)
    go_wp2
    exact bodyPost_ret (v:=.tuple #[.int .i64 i,.bool true]) (by simp [results,results38,go_sem]) rfl ⟨rfl,Or.inl ⟨i,by rw [uh HX,hxt],rfl⟩⟩
  ·have e:i=16:=by omega
   subst e;clear HT;go_wp2
   refine bodyPost_ret (v:=.tuple #[.int .i64 0,.bool false]) (by simp [results,results38,go_sem]) rfl ⟨rfl,Or.inr ⟨fun j hj=>?_,rfl⟩⟩;by_cases hj16:j<16
   ·exact uh HF j hj16 hj
   ·rw [List.getElem?_eq_none (by omega)] at hj;cases hj
end Go.Proofs.YtahpjlbaagkdoaaGreatDoor
namespace Go.Proofs.YtahpjlbaagkdoaaGreatDoor
open Go.Proofs.Tryz
open Go.ChangeShapes Go.WideShapes Go.ChangeAt Go.RowKit
theorem own:ownKnob prog.godebug=none:=by kernel_rfl
theorem evG : prog.globalNamed "loop.example/g00351/impl.eventNames" = some 0 := by kernel_rfl
theorem evG_type:(prog.globals[0]?).map (·.type)=some 122:=by kernel_rfl
theorem cells_str:prog.cellsOf 9=1:=by kernel_rfl
theorem evData:(Rows.laid_loop_example_g00351_impl_eventNames:DataW Unit)=.agg (evRow.map fun x=>.lit (.string x.1)):=by kernel_rfl
theorem evT_of {W : World} (h : Lib.VarReads prog W "loop.example/g00351/impl.eventNames" Rows.laid_loop_example_g00351_impl_eventNames) : EvT W := by
 rw [evData] at h;obtain ⟨g,t,cs,fuel,p,hg,hty,hvar,hd⟩:=h;obtain rfl:=Option.some.inj (evG.symm.trans hg);obtain rfl:=Option.some.inj (evG_type.symm.trans hty);intro i x hx;have hi:i<16:=(List.getElem?_eq_some_iff.1 hx).1;obtain ⟨fuel',d,q,hdi,he⟩:=Lib.array_elem underlying122 hd i hi;unfold evTexts at hx;rw [List.getElem?_map] at hx hdi;obtain ⟨r,hr,rfl⟩:=Option.map_eq_some_iff.1 hx;rw [hr] at hdi;obtain rfl:=Option.some.inj hdi;rw [cells_str,Nat.mul_one] at he;obtain ⟨s,hc,hz,hw⟩:=DataW.trod_string underlying9 he;rw [World.var?_cell hg hvar i,← Array.getElem?_toList];have e0:cs.toList[i]?=some (.string s):=by
  have:=congrArg (·[0]?) hc
  simpa [List.getElem?_take,List.getElem?_drop] using this
 rw [e0];simp at hz;rw [hz.1];rfl
end Go.Proofs.YtahpjlbaagkdoaaGreatDoor
