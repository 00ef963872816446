/- MtB WkN HxW OptRead LawAsk -/
import Derived.Test.YtjebigodbnefiaaGreatDoorS19
import Derived.Test.YtjebigodbnefiaaGreatDoorS23
set_option maxHeartbeats 8000000
set_option maxRecDepth 100000
namespace Go.Proofs.YtjebigodbnefiaaGreatDoor
open Go.RowKit Go.Proofs.Tryz
theorem ii {W:World} {B:Nat} {X Y Z:List Value} {T:TypeId} (h:W.heap[B]?=some (.cells (X ++ Y ++ Z).toArray T)):W.there B X.length Y.length:=fun j hj=>by
 have:=aS h j Y[j] (List.getElem?_eq_getElem hj)
 rw [this];exact ⟨rfl,aX h _⟩
theorem ig {w w':World} {b:Nat} {e e':TypeId} {k k':Nat} {v v':Value} {n n':Nat} {xs ys:List Value} (h:w.ownsRow b e k v n xs) (h':w'.ownsRow w.heap.size e' k' v' n' ys):Ap v v':=fun g hg e=>by
 have h1:=(h.lt g hg).2;have h2:=(h'.lt g e).1;omega
theorem qK (e:En) (x1 x2:Option Addr) (y1 y2:Nat) (F1 F2:List Op.Opt) (now:Int) (w:World) (rg1:Op.right F1=true) (r2:Op.right F2=true) (h1:HoldsO w (.slice x1 F1.length y1) F1) (h2:HoldsO w (.slice x2 F2.length y2) F2) :
  Calls prog 132 #[.agg (aA e (.slice x1 F1.length y1) (.slice x2 F2.length y2)),.int .i64 now] w fun r w'=>∃ B v1 v2,r=.returned (.pointer (some ⟨B,0,none⟩))∧Lay 182 w w' B (bY now) ⟨e,F1,F2,[],[]⟩ v1 v2 (.slice none 0 0) (.slice none 0 0) w':=by
 have C1:=aa fun W (hb:Below w.heap.size w W)=>qA _ F1 W rg1 (h1.below hb rfl)
 have C2:=aa fun W (hb:Below w.heap.size w W)=>qA _ F2 W r2 (h2.below hb rfl)
 clear h1 h2;obtain ⟨A,eA⟩:∃ A,w.heap.size=A:=⟨_,rfl⟩;have hA:=zF w (.cells (aA e (.slice x1 F1.length y1) (.slice x2 F2.length y2)) 72);have hbA:Below w.heap.size w (w.alloc (.cells (aA e (.slice x1 F1.length y1) (.slice x2 F2.length y2)) 72)):=(zC _ _).alloc (zD _) _;rw [eA] at hA;have H0:=aa (zA hA hbA);clear hA hbA;obtain ⟨n1,e1⟩:∃ n,F1.length=n:=⟨_,rfl⟩;obtain ⟨n2,e2⟩:∃ n,F2.length=n:=⟨_,rfl⟩;rw [e1] at C1 H0 ⊢;rw [e2] at C2 H0 ⊢;go_enter func132,ntmps132
 go_upto_region 1 with fail
 refine aI (fun z=>z.heap[A]?=some (.cells (aA e (.slice x1 n1 y1) (.slice x2 n2 y2)) 72)∧Below w.heap.size w z) ?_ ?_
 ·exact uh H0
 clear H0;rintro z ⟨za,zl⟩;have hAw:w.heap.size≤z.heap.size:=zl.size;have hAl:A<z.heap.size:=(ge.1 za).1;have c17:z.cell? ⟨A,17,none⟩=some (.slice x1 n1 y1):=by rw [cr za];rfl
 have c18:z.cell? ⟨A,18,none⟩=some (.slice x2 n2 y2):=by rw [cr za];rfl
 have HZ:=aa (zA za (zl.trans ((zC z.heap.size z).drew.mono zl.size)));clear za zl;go_cut [5] (fun _ wx=>∃ a1 p1 a2 p2,wx.heap[A]?=some (.cells (aA e (.slice a1 n1 p1) (.slice a2 n2 p2)) 72)∧wx.ownsRow w.heap.size 27 2 (.slice a1 n1 p1) n1 (aj F1)∧wx.ownsRow w.heap.size 27 2 (.slice a2 n2 p2) n2 (aj F2)∧Ap (.slice a1 n1 p1) (.slice a2 n2 p2)∧Below w.heap.size w wx)
 case first =>
  refine wp_region_held_drew (S:=fun _=>True) (by kernel_rfl) trivial (fun hHeld=>?_);refine tt 0 3 ?_;refine r4 1 4 (fun K hK=>?_) (fun K hK=>?_)
  ·have cx:=c17;go_simp;refine ro hK trivial fun _=>?_
   clear hK K;clear cx;refine r4 2 4 (fun K hK=>?_) (fun K hK=>?_)
   ·go_simp;refine (uh C1 _ (uh HZ).2).mono ?_;rintro r w5 ⟨a1,p1,rfl,ho1,hb5⟩;have q5:=(hb5.block A hAl).trans (uh HZ).1;have d18:w5.cell? ⟨A,18,none⟩=some (.slice x2 n2 y2):=by rw [cr q5];rfl
    have H5:=aa (zA q5 (zA ho1 ((uh HZ).2.trans (hb5.mono (uh HZ).2.size))));have hs5:w.heap.size≤z.heap.size:=hAw;clear q5 ho1 hb5;go_wp2_with fail
    refine ro hK trivial fun _=>?_
    clear hK K;refine r3 4 fun K hK=>?_
    have cx:=d18;go_simp;refine ro hK trivial fun _=>?_
    clear hK K;clear cx;refine t2 6 ?_;refine r3 5 fun K hK=>?_
    go_simp;refine (uh C2 _ (uh H5).2.2).mono ?_;rintro r w6 ⟨a2,p2,rfl,ho2,hb6⟩;have q6:=(hb6.block A (ge.1 (uh H5).1).1).trans (uh H5).1;have g17:w6.cell? ⟨A,17,none⟩=some (.slice x1 n1 y1):=by rw [cr q6];rfl
    have f17:w6.frozen? ⟨A,17,none⟩=false:=aX q6 17;have r7:=zH w6 A 17 _ _ (.slice a1 n1 p1) q6;have g18:(w6.setCell ⟨A,17,none⟩ (.slice a1 n1 p1)).cell? ⟨A,18,none⟩=some (.slice x2 n2 y2):=by rw [cr r7];rfl
    have f18:(w6.setCell ⟨A,17,none⟩ (.slice a1 n1 p1)).frozen? ⟨A,18,none⟩=false:=aX r7 18;have r8:=zH (w6.setCell ⟨A,17,none⟩ (.slice a1 n1 p1)) A 18 _ _ (.slice a2 n2 p2) r7;have k1:=aP (uh H5).2.1 hb6;have hap:=ig (uh H5).2.1 ho2;have hlo:=(uh H5).2.2.trans (hb6.mono (uh H5).2.2.size);have n1A:∀ g,(Value.slice a1 n1 p1).ownBlock=some g→g≠A:=fun g hg e=>by have h1:z.heap.size≤g:=(k1.lt g hg).1;omega
    have n2A:∀ g,(Value.slice a2 n2 p2).ownBlock=some g→g≠A:=fun g hg e=>by have h1:=(ho2.lt g hg).1;have h2:=(ge.1 (uh H5).1).1;omega
    have hk:∀ g,g≠A→((w6.setCell ⟨A,17,none⟩ (.slice a1 n1 p1)).setCell ⟨A,18,none⟩ (.slice a2 n2 p2)).heap[g]?=w6.heap[g]?:=fun g hg=>(heap_setCell_other _ _ _ _ hg).trans (heap_setCell_other _ _ _ _ hg)
    have H6:=aa (zA (show ((w6.setCell ⟨A,17,none⟩ (.slice a1 n1 p1)).setCell ⟨A,18,none⟩ (.slice a2 n2 p2)).heap[A]?=some (.cells (aA e (.slice a1 n1 p1) (.slice a2 n2 p2)) 72) from r8) (zA (aE (ak k1 fun g hg=>hk g (n1A g hg)) hAw) (zA (aE (ak ho2 fun g hg=>hk g (n2A g hg)) (uh H5).2.2.size) (zA hap ((hlo.setCell (p:=⟨A,17,none⟩) (Nat.le_of_eq eA) (.slice a1 n1 p1)).setCell (p:=⟨A,18,none⟩) (Nat.le_of_eq eA) (.slice a2 n2 p2))))));clear q6 r7 r8 ho2 hb6 k1 hap hlo n1A n2A hk;go_wp2_with fail
    refine ro hK trivial fun _=>?_
    clear hK K;refine r3 7 fun K hK=>?_
    go_simp;refine ro hK trivial fun _=>?_
    clear hK K;refine t2 8 ?_;refine r3 9 fun K hK=>?_
    go_simp;refine hK.out _ _ trivial (fun _=>?_);clear hK K;try simp only [Act.put,List.getElem_toArray,List.getElem_cons_zero,List.getElem_cons_succ]
    refine dn ?_ _;go_wp2_with fail
    go_meet;exact ⟨a1,p1,a2,p2,uh H6⟩
   ·have cx:=c18;go_simp;refine ro hK trivial fun _=>?_
    clear hK K;clear cx;refine r3 2 fun K hK=>?_
    go_simp;refine (uh C1 _ (uh HZ).2).mono ?_;rintro r w5 ⟨a1,p1,rfl,ho1,hb5⟩;have q5:=(hb5.block A hAl).trans (uh HZ).1;have d18:w5.cell? ⟨A,18,none⟩=some (.slice x2 n2 y2):=by rw [cr q5];rfl
    have H5:=aa (zA q5 (zA ho1 ((uh HZ).2.trans (hb5.mono (uh HZ).2.size))));have hs5:w.heap.size≤z.heap.size:=hAw;clear q5 ho1 hb5;go_wp2_with fail
    refine ro hK trivial fun _=>?_
    clear hK K;refine t2 6 ?_;refine r3 5 fun K hK=>?_
    go_simp;refine (uh C2 _ (uh H5).2.2).mono ?_;rintro r w6 ⟨a2,p2,rfl,ho2,hb6⟩;have q6:=(hb6.block A (ge.1 (uh H5).1).1).trans (uh H5).1;have g17:w6.cell? ⟨A,17,none⟩=some (.slice x1 n1 y1):=by rw [cr q6];rfl
    have f17:w6.frozen? ⟨A,17,none⟩=false:=aX q6 17;have r7:=zH w6 A 17 _ _ (.slice a1 n1 p1) q6;have g18:(w6.setCell ⟨A,17,none⟩ (.slice a1 n1 p1)).cell? ⟨A,18,none⟩=some (.slice x2 n2 y2):=by rw [cr r7];rfl
    have f18:(w6.setCell ⟨A,17,none⟩ (.slice a1 n1 p1)).frozen? ⟨A,18,none⟩=false:=aX r7 18;have r8:=zH (w6.setCell ⟨A,17,none⟩ (.slice a1 n1 p1)) A 18 _ _ (.slice a2 n2 p2) r7;have k1:=aP (uh H5).2.1 hb6;have hap:=ig (uh H5).2.1 ho2;have hlo:=(uh H5).2.2.trans (hb6.mono (uh H5).2.2.size);have n1A:∀ g,(Value.slice a1 n1 p1).ownBlock=some g→g≠A:=fun g hg e=>by have h1:z.heap.size≤g:=(k1.lt g hg).1;omega
    have n2A:∀ g,(Value.slice a2 n2 p2).ownBlock=some g→g≠A:=fun g hg e=>by have h1:=(ho2.lt g hg).1;have h2:=(ge.1 (uh H5).1).1;omega
    have hk:∀ g,g≠A→((w6.setCell ⟨A,17,none⟩ (.slice a1 n1 p1)).setCell ⟨A,18,none⟩ (.slice a2 n2 p2)).heap[g]?=w6.heap[g]?:=fun g hg=>(heap_setCell_other _ _ _ _ hg).trans (heap_setCell_other _ _ _ _ hg)
    have H6:=aa (zA (show ((w6.setCell ⟨A,17,none⟩ (.slice a1 n1 p1)).setCell ⟨A,18,none⟩ (.slice a2 n2 p2)).heap[A]?=some (.cells (aA e (.slice a1 n1 p1) (.slice a2 n2 p2)) 72) from r8) (zA (aE (ak k1 fun g hg=>hk g (n1A g hg)) hAw) (zA (aE (ak ho2 fun g hg=>hk g (n2A g hg)) (uh H5).2.2.size) (zA hap ((hlo.setCell (p:=⟨A,17,none⟩) (Nat.le_of_eq eA) (.slice a1 n1 p1)).setCell (p:=⟨A,18,none⟩) (Nat.le_of_eq eA) (.slice a2 n2 p2))))));clear q6 r7 r8 ho2 hb6 k1 hap hlo n1A n2A hk;go_wp2_with fail
    refine ro hK trivial fun _=>?_
    clear hK K;refine r3 7 fun K hK=>?_
    go_simp;refine ro hK trivial fun _=>?_
    clear hK K;refine t2 8 ?_;refine r3 9 fun K hK=>?_
    go_simp;refine hK.out _ _ trivial (fun _=>?_);clear hK K;try simp only [Act.put,List.getElem_toArray,List.getElem_cons_zero,List.getElem_cons_succ]
    refine dn ?_ _;go_wp2_with fail
    go_meet;exact ⟨a1,p1,a2,p2,uh H6⟩
  ·have cx:=c18;go_simp;refine ro hK trivial fun _=>?_
   clear hK K;clear cx;refine r3 1 fun K hK=>?_
   have cx:=c17;go_simp;refine ro hK trivial fun _=>?_
   clear hK K;clear cx;refine r3 2 fun K hK=>?_
   go_simp;refine (uh C1 _ (uh HZ).2).mono ?_;rintro r w5 ⟨a1,p1,rfl,ho1,hb5⟩;have q5:=(hb5.block A hAl).trans (uh HZ).1;have d18:w5.cell? ⟨A,18,none⟩=some (.slice x2 n2 y2):=by rw [cr q5];rfl
   have H5:=aa (zA q5 (zA ho1 ((uh HZ).2.trans (hb5.mono (uh HZ).2.size))));have hs5:w.heap.size≤z.heap.size:=hAw;clear q5 ho1 hb5;go_wp2_with fail
   refine ro hK trivial fun _=>?_
   clear hK K;refine t2 6 ?_;refine r3 5 fun K hK=>?_
   go_simp;refine (uh C2 _ (uh H5).2.2).mono ?_;rintro r w6 ⟨a2,p2,rfl,ho2,hb6⟩;have q6:=(hb6.block A (ge.1 (uh H5).1).1).trans (uh H5).1;have g17:w6.cell? ⟨A,17,none⟩=some (.slice x1 n1 y1):=by rw [cr q6];rfl
   have f17:w6.frozen? ⟨A,17,none⟩=false:=aX q6 17;have r7:=zH w6 A 17 _ _ (.slice a1 n1 p1) q6;have g18:(w6.setCell ⟨A,17,none⟩ (.slice a1 n1 p1)).cell? ⟨A,18,none⟩=some (.slice x2 n2 y2):=by rw [cr r7];rfl
   have f18:(w6.setCell ⟨A,17,none⟩ (.slice a1 n1 p1)).frozen? ⟨A,18,none⟩=false:=aX r7 18;have r8:=zH (w6.setCell ⟨A,17,none⟩ (.slice a1 n1 p1)) A 18 _ _ (.slice a2 n2 p2) r7;have k1:=aP (uh H5).2.1 hb6;have hap:=ig (uh H5).2.1 ho2;have hlo:=(uh H5).2.2.trans (hb6.mono (uh H5).2.2.size);have n1A:∀ g,(Value.slice a1 n1 p1).ownBlock=some g→g≠A:=fun g hg e=>by have h1:z.heap.size≤g:=(k1.lt g hg).1;omega
   have n2A:∀ g,(Value.slice a2 n2 p2).ownBlock=some g→g≠A:=fun g hg e=>by have h1:=(ho2.lt g hg).1;have h2:=(ge.1 (uh H5).1).1;omega
   have hk:∀ g,g≠A→((w6.setCell ⟨A,17,none⟩ (.slice a1 n1 p1)).setCell ⟨A,18,none⟩ (.slice a2 n2 p2)).heap[g]?=w6.heap[g]?:=fun g hg=>(heap_setCell_other _ _ _ _ hg).trans (heap_setCell_other _ _ _ _ hg)
   have H6:=aa (zA (show ((w6.setCell ⟨A,17,none⟩ (.slice a1 n1 p1)).setCell ⟨A,18,none⟩ (.slice a2 n2 p2)).heap[A]?=some (.cells (aA e (.slice a1 n1 p1) (.slice a2 n2 p2)) 72) from r8) (zA (aE (ak k1 fun g hg=>hk g (n1A g hg)) hAw) (zA (aE (ak ho2 fun g hg=>hk g (n2A g hg)) (uh H5).2.2.size) (zA hap ((hlo.setCell (p:=⟨A,17,none⟩) (Nat.le_of_eq eA) (.slice a1 n1 p1)).setCell (p:=⟨A,18,none⟩) (Nat.le_of_eq eA) (.slice a2 n2 p2))))));clear q6 r7 r8 ho2 hb6 k1 hap hlo n1A n2A hk;go_wp2_with fail
   refine ro hK trivial fun _=>?_
   clear hK K;refine r3 7 fun K hK=>?_
   go_simp;refine ro hK trivial fun _=>?_
   clear hK K;refine t2 8 ?_;refine r3 9 fun K hK=>?_
   go_simp;refine hK.out _ _ trivial (fun _=>?_);clear hK K;try simp only [Act.put,List.getElem_toArray,List.getElem_cons_zero,List.getElem_cons_succ]
   refine dn ?_ _;go_wp2_with fail
   go_meet;exact ⟨a1,p1,a2,p2,uh H6⟩
 case rest =>
  obtain ⟨a1,p1,a2,p2,hq⟩:=hcut;have HQ:=aa hq;clear hq;go_upto_region 2 with fail
  refine aI (fun q=>q.heap[A]?=some (.cells (aA e (.slice a1 n1 p1) (.slice a2 n2 p2)) 72)∧q.ownsRow w.heap.size 27 2 (.slice a1 n1 p1) n1 (aj F1)∧q.ownsRow w.heap.size 27 2 (.slice a2 n2 p2) n2 (aj F2)∧Ap (.slice a1 n1 p1) (.slice a2 n2 p2)∧Below w.heap.size w q) ?_ ?_
  ·exact uh HQ
  clear HQ HZ c17 c18;rintro q hq;have HQ:=aa hq;clear hq
  go_wp2_with (first
   | (refine wpList_load_row rfl 72 (.tmp 2) rfl A rfl 72 (aA e (.slice a1 n1 p1) (.slice a2 n2 p2)) (0,0) _ (uh HQ).1 underlying72 rfl aL ?_)
   | (refine wpList_buildTo rfl 182 _ rfl (some 15) rfl (jF e (.slice a1 n1 p1) (.slice a2 n2 p2) now).toArray (by as_aux_lemma=>kernel_rfl) ?_)
   | (refine Great.wpList_allocTo rfl (some 16) rfl (.pointer (some ⟨q.heap.size,0,none⟩)) (.cells (jF e (.slice a1 n1 p1) (.slice a2 n2 p2) now).toArray 182) (by as_aux_lemma=>kernel_rfl) ?_))
  go_ret
  obtain ⟨_,o1,o2,ap,lo⟩:=uh HQ;exact ⟨_,_,_,rfl,Lay.start ttI e1 e2 now o1 o2 ap lo⟩
def uU (t:ByteArray) (n k:Nat):List Value:=bh (nz t k) ++ List.replicate (n - k) (.int .u8 0)
theorem zr {t:ByteArray} {n k:Nat} (h:k<n):(uU t n k)[k]?=some (.int .u8 0):=by
 unfold uU;rw [List.getElem?_append_right (by rw [oX,fU];omega),oX,fU,Nat.sub_self,List.getElem?_replicate,if_pos (by omega)]
theorem xV {t:ByteArray} {n k:Nat} (h:k<n) (b:UInt8) (hb:b=UInt8.ofNat (16*ff t (2*k)+ff t (2*k+1))):(uU t n k).set k (.int .u8 b.toNat)=uU t n (k+1):=by
 unfold uU;rw [List.set_append_right _ _ (by rw [oX,fU];omega),oX,fU,Nat.sub_self,uz,← hb,fo,List.append_assoc];congr 1
 obtain ⟨m,hm⟩:∃ m,n - k=m+1:=⟨n - k - 1,by omega⟩;rw [hm,show n - (k+1)=m by omega,List.replicate_succ,List.set_cons_zero];rfl
theorem xW {w w1:World} {n:Nat} {t:ByteArray} (ho:w1.ownsRow w.heap.size 5 1 (.slice (some ⟨w.heap.size,0,none⟩) n n) n (madeCells (Value.int .u8 0).cells (n*1)).toList):w1.heap[w.heap.size]?=some (.cells (uU t n 0).toArray 5):=by
 rcases ho.2 with ⟨e,_⟩ | ⟨g,cap,cur,e,_,h3,h4,_,h6,h7⟩
 ·cases e
 ·cases e;rw [h3];congr 2
  rw [Nat.mul_one] at h6 h7;rw [List.take_of_length_le (by simp;omega)] at h7;have e1:(madeCells (Value.int .u8 0).cells n).toList=List.replicate n (.int .u8 0):=toList_madeCells_one _ _;rw [e1] at h7;have e2:uU t n 0=List.replicate n (.int .u8 0):=rfl;rw [e2,← h7]
theorem xX {w:World} {B n:Nat} {t:ByteArray} (h:w.heap[B]?=some (.cells (uU t n n).toArray 5)):(convert 22 9 (.slice (some ⟨B,0,none⟩) n n)).run prog w=.ok (.string (co (nz t n))) w:=by
 have hl:=fU t n;have:=run_convert_bytes_back (P:=prog) w 22 9 5 ⟨B,0,none⟩ n (nz t n) underlying22 underlying5 underlying9 (fun j hj=>by
  rw [Addr.add_lit,Nat.zero_add,cr h];have e2:uU t n n=bh (nz t n):=by unfold uU;rw [Nat.sub_self];exact List.append_nil _
  rw [e2];simp [bh,mp,hj])
 rw [hl] at this;exact this
theorem xY (h l:Nat) (hh:h<16) (hl:l<16):bits .or .i64 ((h:Int)*16) (l:Int) % 256=((UInt8.ofNat (16*h+l)).toNat:Int):=by
 have:∀ h:Nat,h<16→∀ l:Nat,l<16→bits .or .i64 ((h:Int)*16) (l:Int) % 256=((UInt8.ofNat (16*h+l)).toNat:Int):=by decide +kernel
 exact this h hh l hl
theorem zt (t:ByteArray) (w:World) (ht:t.size≤8000) (he:t.size % 2=0) :
  Calls prog 94 #[.string t] w fun e w'=>e=.returned (.string (bB t))∧Below w.heap.size w w':=by
 have d0:¬ ((8000:Int)<(t.size:Int)):=by omega
 have d1:(t.size:Int).tmod 2=0:=by rw [Int.tmod_eq_emod_of_nonneg (by omega)];omega
 obtain ⟨n,hn⟩:∃ n,t.size=2*n:=⟨t.size / 2,by omega⟩;have d2:(t.size:Int) / 2=(n:Int):=by omega
 have hn4:n≤4000:=by omega
 have hi1:=mn;obtain ⟨ui,hi1,hi2,hi3,hi4⟩:=mn;have HN:=aa hn;clear hn;go_enter func94,ntmps94
 go_wp2_with (first
  | (at_make;refine wpList_make_full w rfl _ _ 22 rfl w.heap.size 5 ui (.int .u8 0) 1 underlying22 hi1 hi2 hi3 .i64 .i64 _ _ n rfl rfl (by go_num) (by go_num) (by rw [hi4];omega) (by unfold maxLen;omega) (zD _) ?_;rintro w1 ho1 hg1;have HM:=aa (zA (xW (t:=t) ho1) ((zC w.heap.size w).grown hg1 (zD _) (fun q hq=>by cases hq)));clear ho1 hg1))
 go_loopw [22] (fun i wr=>∃ (k:Nat),k≤n∧i=.int .i64 (k:Int)∧sL t k∧wr.heap[w.heap.size]?=some (.cells (uU t n k).toArray 5)∧Below w.heap.size w wr) (fun i _=>n - (intOf i).toNat)
 case atStart=>exact ⟨0,Nat.zero_le _,rfl,fun i hi=>by omega,(uh HM).1,(uh HM).2⟩
 case round =>
  obtain ⟨k,hk,rfl,hok,hrow,hb1⟩:=hrel;by_cases hlk:k<n
  ·have hlt:2*k<t.size:=by have:=uh HN;omega
   have hlt2:2*k+1<t.size:=by have:=uh HN;omega
   have HS:=aa (fun b=>@xV t n k hlk b);have HK:=aa (sW hok);have HE:=aa (fun i hi h=>@uA t i hi h);have C1:=aa fun w=>uT yR (t[2*k]'hlt) w
   have C2:=aa fun w=>uT yR (t[2*k+1]'hlt2) w
   rw [uQ,mr hlt] at C1;rw [uQ,mr hlt2] at C2;have l1:=ri t (2*k);have l2:=ri t (2*k+1);have hix1:∀ W,(Instr.index 9 (.string t) (.int .i64 (2*(k:Int)))).run prog W=.ok (.int .u8 ((t[2*k]'hlt).toNat:Int)) W:=by
    intro W;rw [run_index_string _ _ _ _ _ underlying9,dif_pos (by omega)];congr 4
   have hix2:∀ W,(Instr.index 9 (.string t) (.int .i64 (2*(k:Int)+1))).run prog W=.ok (.int .u8 ((t[2*k+1]'hlt2).toNat:Int)) W:=by
    intro W;rw [run_index_string _ _ _ _ _ underlying9,dif_pos (by omega)];congr 4
   have k1:wr.cell? ⟨w.heap.size,k,none⟩=some (.int .u8 0):=by rw [cr hrow,List.getElem?_toArray];exact zr hlk
   have k2:=aX hrow k;have HB:=aa (zA hrow hb1);clear hrow hok hb1 he HM;generalize t[2*k]'hlt=c1 at *;generalize t[2*k+1]'hlt2=c2 at *;have HH:=aa (xU (ff t (2*k)) (ff t (2*k+1)));generalize hhv:ff t (2*k)=h at *;generalize hlv:ff t (2*k+1)=l at *;have HV:=aa (zA hhv hlv);clear hhv hlv;have hd:((k:Int)<(n:Int)):=by omega
   by_cases e1:h<16
   ·rw [if_pos e1] at C1;have q1:¬ ((h:Int)<0):=by omega
    by_cases e2:l<16
    ·rw [if_pos e2] at C2;have q2:¬ ((l:Int)<0):=by omega
     go_wp2_with fail
     refine (uh C1 _).mono ?_;rintro e w1 ⟨rfl,hw⟩;replace hw:=hw.symm;subst hw;go_wp2_with fail
     refine (uh C2 _).mono ?_;rintro e w1 ⟨rfl,hw⟩;replace hw:=hw.symm;subst hw;go_wp2
     rw [xY h l e1 e2];refine ⟨⟨k+1,by omega,by go_num,uh HK e1 e2,?_,?_⟩,?_⟩
     ·rw [zH _ _ _ _ _ _ (uh HB).1,List.setIfInBounds_toArray,uh HS _ rfl]
     ·exact (uh HB).2.setCell (p:=⟨w.heap.size,k,none⟩) (zD _) _
     ·simp [intOf];omega
    ·rw [if_neg e2] at C2;have HQ:=aa (uh HE (2*k+1) hlt2 (by have:=uh HV;omega));go_wp2_with fail
     refine (uh C1 _).mono ?_;rintro e w1 ⟨rfl,hw⟩;replace hw:=hw.symm;subst hw;go_wp2_with fail
     refine (uh C2 _).mono ?_;rintro e w1 ⟨rfl,hw⟩;replace hw:=hw.symm;subst hw;go_wp2
     go_ret
     exact ⟨by rw [uh HQ];rfl,(uh HB).2⟩
   ·rw [if_neg e1] at C1;have HQ:=aa (uh HE (2*k) hlt (by have:=uh HV;omega));generalize (if l<16 then (l:Int) else -1)=lz at *;go_wp2_with fail
    refine (uh C1 _).mono ?_;rintro e w1 ⟨rfl,hw⟩;replace hw:=hw.symm;subst hw;go_wp2_with fail
    refine (uh C2 _).mono ?_;rintro e w1 ⟨rfl,hw⟩;replace hw:=hw.symm;subst hw;go_wp2
    go_ret
    exact ⟨by rw [uh HQ];rfl,(uh HB).2⟩
  ·have hlt':¬ ((k:Int)<(n:Int)):=by omega
   have hkn:k=n:=by omega
   subst hkn;have hcv:=xX hrow;have HE:=aa (lE (by have:=uh HN;omega) ht hok);generalize co (nz t k)=z at *;go_wp2
   go_ret
   exact ⟨by rw [uh HE];rfl,hb1⟩
theorem uV (t:ByteArray) (w:World) (ht:t.size≤maxLen) :
  Calls prog 94 #[.string t] w fun e w'=>e=.returned (.string (bB t))∧Below w.heap.size w w':=by
 unfold maxLen at ht;by_cases h8:t.size≤8000
 ·by_cases he:t.size % 2=0
  ·exact zt t w h8 he
  ·rw [show bB t=_ from if_neg fun h=>he h.2.1];have d0:¬ ((8000:Int)<(t.size:Int)):=by omega
   have d1:(t.size:Int).tmod 2=1:=by rw [Int.tmod_eq_emod_of_nonneg (by omega)];omega
   go_enter func94,ntmps94
   go_wp2
   go_ret
   exact ⟨rfl,zC _ _⟩
 ·rw [show bB t=_ from if_neg fun h=>h8 h.1];have d0:(8000:Int)<(t.size:Int):=by omega
  go_enter func94,ntmps94
  go_wp2
  go_ret
  exact ⟨rfl,zC _ _⟩
def q8 (m a g:Int) (p c d:Bool):List Op.Opt:=if aK m a g=true then dO m.toNat a.toNat g.toNat p c d 6 else []
theorem BD {m a g:Int} (h:aK m a g=true):((m.toNat:Nat):Int)=m∧((a.toNat:Nat):Int)=a∧((g.toNat:Nat):Int)=g:=by
 simp only [aK,al,Bool.and_eq_true,decide_eq_true_eq] at h;omega
theorem q_ (m a g:Int) (p c d:Bool) (w:World) :
  Calls prog 8 #[cN m a g p c d] w fun e w'=>∃ ad cp,e=.returned (.slice ad (q8 m a g p c d).length cp)∧w'.ownsRow w.heap.size 27 2 (.slice ad (q8 m a g p c d).length cp) (q8 m a g p c d).length (aj (q8 m a g p c d))∧Below w.heap.size w w':=by
 by_cases h:aK m a g=true
 ·rw [show q8 m a g p c d=dO m.toNat a.toNat g.toNat p c d 6 from if_pos h];obtain ⟨e1,e2,e3⟩:=BD h;have:=mM m.toNat a.toNat g.toNat p c d w (by rw [e1,e2,e3];exact h)
  rw [e1,e2,e3] at this;exact this
 ·rw [show q8 m a g p c d=[] from if_neg h];exact (sz m a g p c d w (by simpa using h)).mono fun e w' ⟨h1,h2⟩=>⟨none,0,h1,⟨rfl,Or.inl ⟨rfl,rfl⟩⟩,h2⟩
end Go.Proofs.YtjebigodbnefiaaGreatDoor
