/- A row of bytes that the call itself has made: how it is turned into a text; a world made a letter; no condition. Texts as lists of bytes, and rows of bytes that the call made: appending, making, turning into a text; no condition. Rows of texts in memory: what they hold, and a text put behind one; no condition but those named. The law's text of a mark; what lay in memory stands. A row of bytes of the call's own, as a text's conversion may have made it too: appending one byte, turning it into a text; no condition. The six cells of a block of six; no condition. -/
import Derived.Test.YtkcghhkkepndnaaGreatDoorShW
import Derived.Deep.RegionHeld
import Derived.ArgAppend
import Derived.Deep.WholeRow
namespace Go.Proofs.YtkcghhkkepndnaaGreatDoor
open Go.RowKit
theorem gen_world {P:Program} {c:Code} {Q:Exit→Act→World→Prop} {a:Act} {W:World} (R:World→Prop) (hW:R W) (h:∀ v,R v→Code.wp P c Q a v):Code.wp P c Q a W:=h W hW
theorem take_snoc (s:ByteArray) (k:Nat) (h:k<s.size):s.data.toList.take (k+1)=s.data.toList.take k ++ [s[k]]:=by
 rw [List.take_succ_eq_append_getElem (by simpa using h)];rfl
theorem strOfNums_size (xs:List Int):(strOfNums xs).size=xs.length:=by simp [strOfNums,ByteArray.size]
theorem conv_own {w:World} {base:Nat} {v:Value} {n:Nat} {xs:List Int} (h:w.ownsRow base 5 1 v n (xs.map (Value.int .u8))) :
  (convert 22 9 v).run Tryz.prog w=.ok (.string (strOfNums xs)) w:=by
 have hl:xs.length=n:=by have:=h.1;simpa using this
 rcases h.2 with ⟨rfl,rfl⟩ | ⟨g,cap,cur,rfl,h2,h3,h4,h5,h6,h7⟩
 ·rw [run_convert_bytes_nil (P:=Tryz.prog) w 22 5 Tryz.underlying22 Tryz.underlying5 0 0 9 Tryz.underlying9]
  have:xs=[]:=List.eq_nil_of_length_eq_zero hl
  subst this
  rfl
 ·refine run_convert_bytes_arg (P:=Tryz.prog) w 22 5 Tryz.underlying22 Tryz.underlying5 g 0 n cap xs hl (fun i hi=>?_) 9 Tryz.underlying9
  rw [cell_of_row w g (0+i) cur _ (0,0) h3]
  have e1:(cur.toList.take (n*1))[i]?=(xs.map (Value.int .u8))[i]?:=by rw [h7]
  rw [List.getElem?_take,if_pos (by omega),Array.getElem?_toList] at e1
  rw [Nat.zero_add,e1]
  simp [List.getD,List.getElem?_eq_getElem (show i<xs.length by omega)]

theorem u8info:∃ i,Tryz.prog.info? 5=some i∧i.zero=some (.int .u8 0)∧i.size=1∧i.bytes=1:=by
 have h:(Tryz.prog.info? 5).map (fun i=>(i.zero,i.size,i.bytes))=some (some (.int .u8 0),1,1):=by kernel_rfl
 obtain ⟨i,hi,hzz⟩:=Option.map_eq_some_iff.1 h
 simp only [Prod.mk.injEq] at hzz
 exact ⟨i,hi,hzz.1,hzz.2.1,hzz.2.2⟩

def txt (l:List UInt8):ByteArray:=⟨l.toArray⟩
def nums (l:List UInt8):List Int:=l.map fun c=>(c.toNat:Int)
def vals (l:List UInt8):List Value:=(nums l).map (Value.int .u8)
theorem txt_nums (l:List UInt8):strOfNums (nums l)=txt l:=by
 unfold strOfNums nums txt
 rw [List.map_map]
 congr 2
 conv=>rhs;rw [← List.map_id l]
 apply List.map_congr_left
 intro x _
 simp
theorem txt_data (t:ByteArray):txt t.data.toList=t:=rfl
theorem data_txt (l:List UInt8):(txt l).data.toList=l:=rfl
theorem txt_size (l:List UInt8):(txt l).size=l.length:=by simp [txt,ByteArray.size]
theorem vals_len (l:List UInt8):(vals l).length=l.length:=by simp [vals,nums]
theorem vals_append (l m:List UInt8):vals (l ++ m)=vals l ++ vals m:=by simp [vals,nums]
theorem vals_one (c:UInt8):vals [c]=[.int .u8 c.toNat]:=rfl
theorem u8_ne {c d:UInt8} (h:c≠d):((c.toNat:Int) == (d.toNat:Int))=false:=by
 refine beq_eq_false_iff_ne.2 fun e=>h (UInt8.toNat_inj.1 (by omega))
theorem own_conv {w:World} {base:Nat} {v:Value} {n:Nat} {l:List UInt8} (h:w.ownsRow base 5 1 v n (vals l)) :
  (convert 22 9 v).run Tryz.prog w=.ok (.string (txt l)) w:=by
 rw [← txt_nums]
 exact conv_own h
theorem append_bytes {wr:World} {cs:Array Value} {ops:Array Oper} {rest:List Oper} {o:Oper} {a:Act} {Q:Exit→Act→World→Prop} (hgd:o.guard=none) (s x:Operand)
  (ho:o.op=.call { callee:=.builtin .append,args:=#[s,x],argTypes:=#[22,22] })
  (base:Nat) (v:Value) (L news:List UInt8) (hs:a.eval s=v) (hown:wr.ownsRow base 5 1 v L.length (vals L))
  (m:Nat) (hm:news.length=m) (hx:a.eval x=.slice (some ⟨wr.heap.size,0,none⟩) m m) (hcs:cs.toList=vals news) (hlen:L.length+news.length≤10000000) (hbase:base≤wr.heap.size)
  (h:∀ v' w',w'.ownsRow base 5 1 v' (L ++ news).length (vals (L ++ news))→Below base wr w'→wpList Tryz.prog ops Q rest (a.put o.dst v') w'):wpList Tryz.prog ops Q (o :: rest) a (wr.alloc (.cells cs 5)):=by
 obtain ⟨ui,hi1,hi2,hi3,hi4⟩:=u8info
 subst hm
 refine wpList_append_own _ hgd s x 22 ho base 5 ui (.int .u8 0) 1 1 Tryz.underlying22 hi1 hi2 hi3 hi4 rfl (by decide) v L.length (vals L) hs (hown.alloc _) ⟨wr.heap.size,0,none⟩ news.length news.length (vals news) hx (by rw [vals_len,Nat.mul_one]) ?_ ?_ ?_ ?_ ?_ ?_
 ·intro i u hu
  rw [Addr.add_lit,Nat.zero_add,World.cell?_alloc_at _ _ _ _ rfl,← hu,← hcs,Array.getElem?_toList]
 ·intro u hu
  simp only [vals,nums,List.map_map,List.mem_map] at hu
  obtain ⟨x,_,rfl⟩:=hu
  rfl
 ·unfold maxLen;omega
 ·omega
 ·simp;omega
 ·intro v' w2 hown2 hg2 _
  refine h v' w2 ?_ ?_
  ·rw [vals_append,List.length_append];exact hown2
  ·exact ((Below.refl _ _).alloc hbase _).grown hg2 (by simp;omega) (fun q hq=>by exact (World.ownsRow.lt hown q hq).1)
theorem mk_bytes {w:World} {ops:Array Oper} {rest:List Oper} {o:Oper} {a:Act} {Q:Exit→Act→World→Prop} (hg:o.guard=none) (l c:Operand) (hop:o.op=Op.makeSlice 22 l c)
  (base:Nat) (C:Int) (n:Nat) (hl:a.eval l=.int .i64 0) (hc:a.eval c=.int .i64 C) (hC:C=(n:Int)) (hn:n≤1000000) (hb:base≤w.heap.size)
  (hK:∀ v w',w'.ownsRow base 5 1 v 0 (vals [])→Below base w w'→wpList Tryz.prog ops Q rest (a.put o.dst v) w'):wpList Tryz.prog ops Q (o :: rest) a w:=by
 obtain ⟨ui,hi1,hi2,hi3,hi4⟩:=u8info
 refine wpList_make_own w hg l c 22 hop base 5 ui (.int .u8 0) 1 Tryz.underlying22 hi1 hi2 hi3 .i64 .i64 C n hl hc hC (by rw [hi4];omega) (by unfold maxLen;omega) hb fun w' h1 h2=>?_
 exact hK _ w' h1 ((Below.refl _ _).grown h2 hb (fun k hk=>by cases hk))
theorem own_form {w:World} {base:Nat} {e:TypeId} {size:Nat} {v:Value} {n:Nat} {xs:List Value} (h:w.ownsRow base e size v n xs):∃ ad cp,v=.slice ad n cp:=by
 rcases h.2 with ⟨rfl,rfl⟩ | ⟨g,cap,cur,rfl,_⟩
 ·exact ⟨_,_,rfl⟩
 ·exact ⟨_,_,rfl⟩
theorem frz {w:World} {B:Nat} {cs:Array Value} {T:TypeId} (h:w.heap[B]?=some (.cells cs T)) (o:Nat):w.frozen? ⟨B,o,none⟩=false:=by simp [World.frozen?,h]
def scells (l:List ByteArray):List Value:=l.map Value.string
theorem scells_len (l:List ByteArray):(scells l).length=l.length:=by simp [scells]
theorem scells_append (l r:List ByteArray):scells (l ++ r)=scells l ++ scells r:=by simp [scells]
theorem scells_get (l:List ByteArray) (i:Nat) (t:ByteArray) (h:l[i]?=some t):(scells l)[i]?=some (.string t):=by simp [scells,h]
theorem sinfo:∃ i,Tryz.prog.info? 9=some i∧i.zero=some (.string ⟨#[]⟩)∧i.size=1∧i.bytes=16:=by
 have h:(Tryz.prog.info? 9).map (fun i=>(i.zero,i.size,i.bytes))=some (some (.string ⟨#[]⟩),1,16):=by kernel_rfl
 obtain ⟨i,hi,hzz⟩:=Option.map_eq_some_iff.1 h
 simp only [Prod.mk.injEq] at hzz
 exact ⟨i,hi,hzz.1,hzz.2.1,hzz.2.2⟩
def HoldsT (w:World) (v:Value) (L:List ByteArray):Prop :=
 (∃ ad cp,v=.slice ad 0 cp∧L=[])∨∃ g cp cur,v=.slice (some ⟨g,0,none⟩) L.length cp∧w.heap[g]?=some (.cells cur 9)∧L.length≤cur.size∧∀ j,j<L.length→cur[j]?=(scells L)[j]?
theorem HoldsT.own {w:World} {base:Nat} {v:Value} {L:List ByteArray} (h:w.ownsRow base 9 1 v L.length (scells L)):HoldsT w v L:=by
 rcases h.2 with ⟨h1,h2⟩ | ⟨g,cap,cur,h1,_,h3,h4,_,h6,h7⟩
 ·exact Or.inl ⟨_,_,h1,List.eq_nil_of_length_eq_zero h2⟩
 ·refine Or.inr ⟨g,cap,cur,h1,h3,by rw [h6];omega,fun j hj=>?_⟩
  rw [← h7,List.getElem?_take,if_pos (by omega),Array.getElem?_toList]
theorem HoldsT.below {n:Nat} {w w':World} {v:Value} {L:List ByteArray} (h:HoldsT w v L) (hb:Below n w w') (hn:n=w.heap.size):HoldsT w' v L:=by
 subst hn
 exact h.imp id fun ⟨g,cp,cur,h1,h2,h3⟩=>⟨g,cp,cur,h1,(hb.block g (Array.getElem?_eq_some_iff.1 h2).1).trans h2,h3⟩
theorem HoldsT.form {w:World} {v:Value} {L:List ByteArray} (h:HoldsT w v L):∃ ad cp,v=.slice ad L.length cp:=by
 rcases h with ⟨ad,cp,h1,h2⟩ | ⟨g,cp,cur,h1,_⟩
 ·exact ⟨ad,cp,by rw [h1,h2];rfl⟩
 ·exact ⟨_,_,h1⟩
theorem append_txt {wr:World} {ops:Array Oper} {rest:List Oper} {o:Oper} {a:Act} {Q:Exit→Act→World→Prop} (hgd:o.guard=none) (s x:Operand)
  (ho:o.op=.call { callee:=.builtin .append,args:=#[s,x],argTypes:=#[23,23] })
  (base:Nat) (v:Value) (L:List ByteArray) (n:Nat) (hn:L.length=n) (hs:a.eval s=v) (hown:wr.ownsRow base 9 1 v n (scells L)) (t:ByteArray) (hx:a.eval x=.slice (some ⟨wr.heap.size,0,none⟩) 1 1) (hlen:n≤1000000) (hbase:base≤wr.heap.size)
  (h:∀ v' w',w'.ownsRow base 9 1 v' (n+1) (scells (L ++ [t]))→(wr.alloc (.cells #[.string t] 9)).grownBy w' v.ownBlock→wpList Tryz.prog ops Q rest (a.put o.dst v') w'):wpList Tryz.prog ops Q (o :: rest) a (wr.alloc (.cells #[.string t] 9)):=by
 obtain ⟨i0,hi0,hz0,hz1,hz2⟩:=sinfo
 refine wpList_append_own _ hgd s x 23 ho base 9 i0 _ 1 16 Tryz.underlying23 hi0 hz0 hz1 hz2 rfl (by decide) v n (scells L) hs (hown.alloc _) ⟨wr.heap.size,0,none⟩ 1 1 [.string t] hx rfl ?_ ?_ ?_ ?_ ?_ ?_
 ·intro i u hu
  rw [Addr.add_lit,Nat.zero_add,World.cell?_alloc_at _ _ _ _ rfl,← hu]
  simp
 ·intro u hu
  simp only [List.mem_cons,List.not_mem_nil,or_false] at hu
  rw [hu]
  rfl
 ·unfold maxLen;omega
 ·omega
 ·simp;omega
 ·intro v' w2 hown2 hg2 _
  refine h v' w2 ?_ hg2
  rw [scells_append]
  exact hown2
def RowB (w:World) (base:Nat) (v:Value) (l:List UInt8):Prop :=
 (v=.slice none 0 0∧l=[])∨∃ g cap cur fz,v=.slice (some ⟨g,0,none⟩) l.length cap∧base≤g∧w.heap[g]?=some (.cells cur 5 fz)∧l.length≤cap∧cap≤maxLen∧cap≤cur.size∧cur.toList.take l.length=vals l∧∀ i,i<cap→¬ (fz.1≤i∧i<fz.2)
structure Kb (base:Nat) (w w':World):Prop where
 below:Below base w w'
 block:∀ g,g<w.heap.size→(∀ cur fz,w.heap[g]?≠some (.cells cur 5 fz))→w'.heap[g]?=w.heap[g]?
theorem RowB.nil (w:World) (base:Nat):RowB w base (.slice none 0 0) []:=Or.inl ⟨rfl,rfl⟩
theorem RowB.own {w:World} {base:Nat} {v:Value} {l:List UInt8} (h:w.ownsRow base 5 1 v l.length (vals l)):RowB w base v l:=by
 rcases h.2 with ⟨h1,h2⟩ | ⟨g,cap,cur,h1,h2,h3,h4,h5,h6,h7⟩
 ·exact Or.inl ⟨h1,List.eq_nil_of_length_eq_zero h2⟩
 ·exact Or.inr ⟨g,cap,cur,(0,0),h1,h2,h3,h4,h5,by omega,by rw [Nat.mul_one] at h7;exact h7,fun i _ h=>by simp at h⟩
theorem RowB.keep {w w':World} {base:Nat} {v:Value} {l:List UInt8} (h:RowB w base v l) (hk:∀ g cur fz,base≤g→w.heap[g]?=some (.cells cur 5 fz)→w'.heap[g]?=w.heap[g]?):RowB w' base v l:=by
 rcases h with h | ⟨g,cap,cur,fz,h1,h2,h3,h4⟩
 ·exact Or.inl h
 ·exact Or.inr ⟨g,cap,cur,fz,h1,h2,(hk g cur fz h2 h3).trans h3,h4⟩
theorem RowB.form {w:World} {base:Nat} {v:Value} {l:List UInt8} (h:RowB w base v l):∃ ad cp,v=.slice ad l.length cp:=by
 rcases h with ⟨rfl,rfl⟩ | ⟨g,cap,cur,fz,h1,_⟩
 ·exact ⟨_,_,rfl⟩
 ·exact ⟨_,_,h1⟩
theorem vals_get (l:List UInt8) (i:Nat):(vals l)[i]?=l[i]?.map fun (c:UInt8)=>Value.int .u8 (c.toNat:Int):=by simp [vals,nums,Function.comp_def]
theorem row_cell {w:World} {g:Nat} {cur:Array Value} {fz:Nat × Nat} {l:List UInt8} (h3:w.heap[g]?=some (.cells cur 5 fz)) (h7:cur.toList.take l.length=vals l) (i:Nat) (hi:i<l.length):w.cell? ⟨g,i,none⟩=(vals l)[i]?:=by
 rw [cell_of_row _ _ _ _ _ _ h3,← h7,List.getElem?_take,if_pos hi,Array.getElem?_toList]
theorem RowB.conv {w:World} {base:Nat} {v:Value} {l:List UInt8} (h:RowB w base v l):(convert 22 9 v).run Tryz.prog w=.ok (.string (txt l)) w:=by
 rcases h with ⟨rfl,rfl⟩ | ⟨g,cap,cur,fz,rfl,_,h3,_,_,_,h7,_⟩
 ·exact own_conv (World.ownsRow_nil w 0 5 1)
 ·refine run_convert_bytes_back (P:=Tryz.prog) w 22 9 5 ⟨g,0,none⟩ cap l Tryz.underlying22 Tryz.underlying5 Tryz.underlying9 (fun j hj=>?_)
  rw [Addr.add_lit,Nat.zero_add,row_cell h3 h7 j hj,vals_get,List.getElem?_eq_getElem hj]
  rfl
theorem rowB_of (t:ByteArray) (W:World) (ht:t.size≤100000):∃ v W',(convert 9 22 (.string t)).run Tryz.prog W=.ok v W'∧RowB W' W.heap.size v t.data.toList∧Below W.heap.size W W':=by
 have h:=run_bytes_of_string (P:=Tryz.prog) W 9 22 5 t Tryz.underlying9 Tryz.underlying22 Tryz.underlying5
 have hg:=grownCap_ge W t.size 0 5
 have hm:=grownCap_le_maxLen W t.size 0 5 (by unfold maxLen;omega)
 have hl:t.data.toList.length=t.size:=by rw [Array.length_toList];rfl
 refine ⟨_,_,h,Or.inr ⟨W.heap.size,grownCap W t.size 0 5,_,_,by rw [hl],Nat.le_refl _,heap_alloc_new W.drew _,by rw [hl];exact hg,hm,?_,?_,?_⟩,(Below.refl _ _).drew.alloc (Nat.le_refl _) _⟩
 ·simp [bytesRow];omega
 ·rw [hl]
  simp only [bytesRow,Array.toList_append,Array.toList_map]
  rw [List.take_left' (by simp)]
  simp [vals,nums,Function.comp_def]
 ·intro i hi h2
  simp [bytesRow] at h2
  omega
theorem take_set {α:Type} (L:List α) (n:Nat) (x:α) (h:n<L.length):(L.set n x).take (n+1)=L.take n ++ [x]:=by
 rw [List.take_succ_eq_append_getElem (by rw [List.length_set];exact h),List.getElem_set_self,List.take_set_of_le (Nat.le_refl _)]
theorem append_b {wr:World} {ops:Array Oper} {rest:List Oper} {o:Oper} {a:Act} {Q:Exit→Act→World→Prop} (hgd:o.guard=none) (s x:Operand)
  (ho:o.op=.call { callee:=.builtin .append,args:=#[s,x],argTypes:=#[22,22] })
  (base:Nat) (v:Value) (l:List UInt8) (c:UInt8) (hs:a.eval s=v) (hown:RowB wr base v l)
  (X:Int) (hX:X=(c.toNat:Int)) (hx:a.eval x=.slice (some ⟨wr.heap.size,0,none⟩) 1 1) (hlen:l.length≤1000000) (hbase:base≤wr.heap.size)
  (h:∀ v' w',RowB w' base v' (l ++ [c])→Kb base wr w'→wpList Tryz.prog ops Q rest (a.put o.dst v') w'):wpList Tryz.prog ops Q (o :: rest) a (wr.alloc (.cells #[.int .u8 X] 5)):=by
 obtain ⟨ui,hi1,hi2,hi3,hi4⟩:=u8info
 subst hX
 have hb0:Below base wr (wr.alloc (.cells #[.int .u8 c.toNat] 5)):=(Below.refl _ _).alloc hbase _
 have hold:∀ g,g<wr.heap.size→(wr.alloc (.cells #[.int .u8 c.toNat] 5)).heap[g]?=wr.heap[g]?:=fun g hg=>Below.heap_alloc _ _ _ hg
 have hnew:∀ j u,(vals [c])[j]?=some u→(wr.alloc (.cells #[.int .u8 c.toNat] 5)).cell? ((⟨wr.heap.size,0,none⟩:Addr).add j)=some u:=by
  intro j u hu
  rw [Addr.add_lit,Nat.zero_add,cell_of_row _ _ _ _ _ _ (heap_alloc_new wr _),← hu,vals_one,← Array.getElem?_toList]
 have hone:∀ u ∈ vals [c],u.oneCell'=true:=by
  intro u hu
  rw [vals_one,List.mem_singleton] at hu
  subst hu
  rfl
 have fin:∀ v' w',w'.ownsRow (wr.alloc (.cells #[.int .u8 c.toNat] 5)).heap.size 5 1 v' (l.length+1) (vals l ++ vals [c])→(wr.alloc (.cells #[.int .u8 c.toNat] 5)).grownBy w' none→wpList Tryz.prog ops Q rest (a.put o.dst v') w':=by
  intro v' w' h1 h2
  refine h v' w' (RowB.own ?_) ⟨hb0.grown h2 (by simp;omega) (fun q hq=>by cases hq),fun g hg _=>(h2.block g (by simp;omega) (by simp)).trans (hold g hg)⟩
  rw [vals_append,List.length_append]
  exact ⟨h1.1,h1.2.imp id fun ⟨g,cap,cur,p1,p2,p3⟩=>⟨g,cap,cur,p1,by simp at p2;omega,p3⟩⟩
 rcases hown with ⟨rfl,rfl⟩ | ⟨g,cap,cur,fz,rfl,q2,q3,q4,q5,q6,q7,q8⟩
 ·exact wpList_append_grows _ hgd s x 22 ho 5 ui (.int .u8 0) 1 1 Tryz.underlying22 hi1 hi2 hi3 hi4 rfl (by decide) none 0 0 (vals []) hs (fun _=>⟨rfl,rfl⟩) rfl (fun b hb=>by cases hb) ⟨wr.heap.size,0,none⟩ 1 1 (vals [c]) hx rfl hnew hone (by decide) (by decide) (by decide) fin
 ·have hgl:g<wr.heap.size:=(Array.getElem?_eq_some_iff.1 q3).1
  have q3':(wr.alloc (.cells #[.int .u8 c.toNat] 5)).heap[g]?=some (.cells cur 5 fz):=(hold g hgl).trans q3
  refine wpList_append_arg _ hgd s x 22 ho 5 ui (.int .u8 0) 1 1 Tryz.underlying22 hi1 hi2 hi3 hi4 rfl (by decide) g 0 l.length cap (vals l) hs (by rw [vals_len,Nat.mul_one]) ?_ ⟨wr.heap.size,0,none⟩ 1 1 (vals [c]) hx rfl hnew hone ?_ (by unfold maxLen;omega) (by omega) ?_ (fun _=>fin)
  ·intro j u hu
   have hj:j<l.length:=by have:=(List.getElem?_eq_some_iff.1 hu).1;rwa [vals_len] at this
   rw [Nat.zero_add,row_cell q3' q7 j hj,hu]
  ·intro hroom j hj
   have hj0:j=0:=by rw [vals_one] at hj;simpa using hj
   subst hj0
   refine ⟨?_,?_⟩
   ·rw [cell_of_row _ _ _ _ _ _ q3',Array.getElem?_eq_getElem (by omega)]
    rfl
   ·unfold World.frozen?
    rw [q3']
    have:=q8 l.length (by omega)
    simp
    omega
  ·intro hroom
   have e:(wr.alloc (.cells #[.int .u8 c.toNat] 5)).setCells g (0+l.length*1) (vals [c])=(wr.alloc (.cells #[.int .u8 c.toNat] 5)).setCell ⟨g,l.length,none⟩ (.int .u8 c.toNat):=by
    rw [Nat.zero_add,Nat.mul_one]
    rfl
   rw [e]
   refine h _ _ (Or.inr ⟨g,cap,cur.setIfInBounds l.length (.int .u8 c.toNat),fz,by rw [List.length_append];rfl,q2,?_,by rw [List.length_append];exact hroom,q5,by simpa using q6,?_,q8⟩) ⟨hb0.setCell (p:=⟨g,l.length,none⟩) q2 _,?_⟩
   ·rw [setCell_eq_setRow _ g l.length cur 5 fz _ q3']
    exact setRow_heap _ g cur _ 5 _ q3'
   ·rw [vals_append,List.length_append,← q7]
    rw [show ([c]:List UInt8).length=1 from rfl,Array.toList_setIfInBounds,take_set _ _ _ (show l.length<cur.toList.length by have hcl:cur.toList.length=cur.size:=Array.length_toList;omega),vals_one]
   ·intro k hk hne
    have hkg:k≠g:=fun e=>by subst e;exact hne _ _ q3
    exact (Below.heap_setCell _ _ _ _ hkg).trans (hold k hk)
theorem row6 {w:World} {B:Nat} {x0 x1 x2 x3 x4 x5:Value} {T:TypeId} (h:w.heap[B]?=some (.cells #[x0,x1,x2,x3,x4,x5] T)) :
  w.cell? ⟨B,0,none⟩=some x0∧w.cell? ⟨B,1,none⟩=some x1∧w.cell? ⟨B,2,none⟩=some x2∧w.cell? ⟨B,3,none⟩=some x3∧w.cell? ⟨B,4,none⟩=some x4∧w.cell? ⟨B,5,none⟩=some x5 :=
 ⟨by rw [cell_of_row _ _ 0 _ _ (0,0) h];rfl,by rw [cell_of_row _ _ 1 _ _ (0,0) h];rfl,by rw [cell_of_row _ _ 2 _ _ (0,0) h];rfl,by rw [cell_of_row _ _ 3 _ _ (0,0) h];rfl,
  by rw [cell_of_row _ _ 4 _ _ (0,0) h];rfl,by rw [cell_of_row _ _ 5 _ _ (0,0) h];rfl⟩
end Go.Proofs.YtkcghhkkepndnaaGreatDoor
