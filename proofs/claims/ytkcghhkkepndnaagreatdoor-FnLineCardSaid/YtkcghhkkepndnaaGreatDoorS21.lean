/- The head of a packet, the program's: two pairs of bytes, cut and put together; what lay in memory stands. -/
import Derived.Test.YtkcghhkkepndnaaGreatDoorS17
import Derived.Test.YtkcghhkkepndnaaGreatDoorShW
namespace Go.Proofs.YtkcghhkkepndnaaGreatDoor
open Go.RowKit
theorem own_lower {w:World} {base base':Nat} {e:TypeId} {size:Nat} {v:Value} {n:Nat} {xs:List Value} (h:w.ownsRow base e size v n xs) (hb:base'≤base):w.ownsRow base' e size v n xs :=
 ⟨h.1,h.2.imp id fun ⟨g,cap,cur,h1,h2,h3⟩=>⟨g,cap,cur,h1,Nat.le_trans hb h2,h3⟩⟩
theorem append_cut {wr:World} {ops:Array Oper} {rest:List Oper} {o:Oper} {a:Act} {Q:Exit→Act→World→Prop} (hgd:o.guard=none) (s x:Operand)
  (ho:o.op=.call { callee:=.builtin .append,args:=#[s,x],argTypes:=#[22,22] })
  (base B:Nat) (W:List UInt8) (hB:wr.heap[B]?=some (.cells (vals W).toArray 5)) (n j m c:Nat) (hs:a.eval s=.slice (some ⟨B,0,none⟩) n n) (hx:a.eval x=.slice (some ⟨B,j,none⟩) m c)
  (hn:n≤W.length) (hm:0<m) (hj:j+m≤W.length) (hW:W.length≤100000) (hbase:base≤wr.heap.size) (L:List UInt8) (hL:L=W.take n ++ (W.drop j).take m)
  (h:∀ v' w',w'.ownsRow base 5 1 v' L.length (vals L)→Below base wr w'→wpList Tryz.prog ops Q rest (a.put o.dst v') w'):wpList Tryz.prog ops Q (o :: rest) a wr:=by
 obtain ⟨ui,hi1,hi2,hi3,hi4⟩:=u8info
 have hl1:(vals (W.take n)).length=n:=by rw [vals_len,List.length_take];omega
 have hl2:(vals ((W.drop j).take m)).length=m:=by rw [vals_len,List.length_take,List.length_drop];omega
 have hget:∀ i,wr.cell? ⟨B,i,none⟩=(vals W)[i]?:=fun i=>by rw [cell_of_row _ _ _ _ _ _ hB];simp
 have hv:∀ (l:List UInt8) (i:Nat),(vals l)[i]?=l[i]?.map fun (c:UInt8)=>Value.int .u8 (c.toNat:Int):=fun l i=>by simp [vals,nums,Function.comp_def]
 refine wpList_append_grows wr hgd s x 22 ho 5 ui (.int .u8 0) 1 1 Tryz.underlying22 hi1 hi2 hi3 hi4 rfl (by decide) (some ⟨B,0,none⟩) n n (vals (W.take n)) hs (fun h=>by cases h) (by rw [hl1,Nat.mul_one]) ?_
  ⟨B,j,none⟩ m c (vals ((W.drop j).take m)) hx (by rw [hl2,Nat.mul_one]) ?_ ?_ (by omega) (by unfold maxLen;omega) (by omega) ?_
 ·intro b hb i u hu
  cases hb
  rw [Addr.add_lit,Nat.zero_add,hget,← hu,hv,hv,List.getElem?_take,if_pos]
  have:=(List.getElem?_eq_some_iff.1 hu).1
  omega
 ·intro i u hu
  have hi:i<m:=by have:=(List.getElem?_eq_some_iff.1 hu).1;omega
  rw [Addr.add_lit,hget,← hu,hv,hv,List.getElem?_take,if_pos hi,List.getElem?_drop]
 ·intro u hu
  simp only [vals,nums,List.map_map,List.mem_map] at hu
  obtain ⟨y,_,rfl⟩:=hu
  rfl
 ·intro v' w' h1 h2
  refine h v' w' ?_ ((Below.refl _ _).grown h2 hbase (fun q hq=>by cases hq))
  have e:L.length=n+m:=by rw [hL,List.length_append,List.length_take,List.length_take,List.length_drop];omega
  rw [e,hL,vals_append]
  exact own_lower h1 hbase
set_option maxHeartbeats 2000000 in
theorem implHead (k:Nat) (a p:Bool) (w:World) (hk:k<65536) :
  Calls Tryz.prog 107 #[.agg #[.int .u8 (UInt8.ofNat (k / 256)).toNat,.int .u8 (UInt8.ofNat k).toNat],.bool a,.bool p] w fun e w'=>∃ v,e=.returned v∧w'.ownsRow w.heap.size 5 1 v (Pp.head k a p).length (vals (Pp.head k a p))∧Below w.heap.size w w':=by
 have C1:Hid (∀ w,Calls Tryz.prog 108 #[.int .i64 49185] w fun e w'=>e=.returned (.agg #[.int .u8 192,.int .u8 33])∧w'=w.alloc (.cells #[.int .u8 192,.int .u8 33] 143)):=hide fun w=>pairOf 49185 (by decide) w
 have C2:Hid (∀ w,Calls Tryz.prog 108 #[.int .i64 65283] w fun e w'=>e=.returned (.agg #[.int .u8 255,.int .u8 3])∧w'=w.alloc (.cells #[.int .u8 255,.int .u8 3] 143)):=hide fun w=>pairOf 65283 (by decide) w
 obtain ⟨hi,hhi⟩:∃ c,UInt8.ofNat (k / 256)=c:=⟨_,rfl⟩
 obtain ⟨lo,hlo⟩:∃ c,UInt8.ofNat k=c:=⟨_,rfl⟩
 have hin:hi.toNat=k / 256:=by rw [← hhi];simp;omega
 have hln:lo.toNat=k % 256:=by rw [← hlo];simp
 have hw3:(((hi.toNat:Int) == 192)=true∧((lo.toNat:Int) == 33)=true∧k=49185)∨(((hi.toNat:Int) == 192)=true∧((lo.toNat:Int) == 33)=false∧k≠49185)∨(((hi.toNat:Int) == 192)=false∧k≠49185):=by
  by_cases h1:hi.toNat=192
  ·by_cases h2:lo.toNat=33
   ·exact Or.inl ⟨by rw [h1];rfl,by rw [h2];rfl,by omega⟩
   ·exact Or.inr (Or.inl ⟨by rw [h1];rfl,beq_eq_false_iff_ne.2 (by omega),by omega⟩)
  ·exact Or.inr (Or.inr ⟨beq_eq_false_iff_ne.2 (by omega),by omega⟩)
 have HW3:=hide hw3
 rw [hhi,hlo]
 have HW:=hide (head_ways k a p)
 obtain ⟨L,hL⟩:∃ L,Pp.head k a p=L:=⟨_,rfl⟩
 rw [hL]
 rw [hhi,hlo,hL] at HW
 have HIN:=hide hin
 clear hw3 hln hhi hlo hin hL
 go_enter Tryz.func107,Tryz.ntmps107
 go_upto_region 1 with fail
 go_cut [12] (fun b wx=>b=.bool (decide (k=49185))∧wx.heap[w.heap.size]?=some (.cells #[.int .u8 hi.toNat,.int .u8 lo.toNat] 143)∧Below w.heap.size w wx)
 case first =>
  have hw3:=uh HW3
  clear HW3
  rcases hw3 with ⟨d1,d2,d3⟩ | ⟨d1,d2,d3⟩ | ⟨d1,d3⟩
  all_goals go_region_held (fun q=>q.cell? ⟨w.heap.size,0,none⟩=some (.int .u8 hi.toNat)∧q.cell? ⟨w.heap.size,1,none⟩=some (.int .u8 lo.toNat)) (first | go_keep) (first
   | (go_at_call 108;refine (uh C1 _).mono ?_;rintro e w2 ⟨rfl,rfl⟩))
  all_goals go_wp2_with fail
  all_goals
   go_meet
   refine ⟨by simp [d3],(Below.heap_alloc _ _ _ (by simp)).trans (heap_alloc_new w _),?_⟩
   exact (((Below.refl _ _).alloc (Nat.le_refl _) _).alloc (by simp) _).drew
 case rest =>
  obtain ⟨hu12,hblk,hb0⟩:=hcut
  subst hu12
  have hc0:wc.cell? ⟨w.heap.size,0,none⟩=some (.int .u8 hi.toNat):=by rw [cell_of_row _ _ _ _ _ _ hblk];rfl
  have hc1:wc.cell? ⟨w.heap.size,1,none⟩=some (.int .u8 lo.toNat):=by rw [cell_of_row _ _ _ _ _ _ hblk];rfl
  have hs0:=hb0.size
  have hlt:w.heap.size<wc.heap.size:=(Array.getElem?_eq_some_iff.1 hblk).1
  clear HW3 C1 hblk
  have hw7:=uh HW
  clear HW
  refine hw7 _ (fun e r=>?_) (fun e e1 e2 r=>?_) (fun e e1 e2 e3 r=>?_) (fun e e1 e2 e3 r=>?_) (fun e e1 e2 r=>?_) (fun e e1 e2 e3 r=>?_) (fun e e1 e2 e3 r=>?_)
  all_goals
   subst r
   clear hw7
   have hin:=uh HIN
   clear HIN
   first
    | (have d1:decide (k=49185)=true:=decide_eq_true e)
    | (have d1:decide (k=49185)=false:=decide_eq_false e)
   try subst e1
   try subst e2
   first
    | (have d2:((hi.toNat:Int) == 0)=false:=beq_eq_false_iff_ne.2 (by omega))
    | (have d2:((hi.toNat:Int) == 0)=true:=by (rw [show hi.toNat=0 by omega];rfl))
    | skip
   clear hin
   rw [d1]
   go_upto_region 4 with (first
    | (go_at_call 108;refine (uh C2 _).mono ?_;rintro e w2 ⟨rfl,rfl⟩))
   go_cut [8] (fun v wx=>∃ B,v=.slice (some ⟨B,0,none⟩) 4 4∧wx.heap[B]?=some (.cells #[.int .u8 255,.int .u8 3,.int .u8 hi.toNat,.int .u8 lo.toNat] 5)∧wx.cell? ⟨w.heap.size,0,none⟩=some (.int .u8 hi.toNat)∧Below w.heap.size w wx)
   case first =>
    go_wp2_with fail
    go_meet
    refine ⟨_,rfl,?_,?_,?_⟩
    ·have h:=heap_alloc_new ((wc.alloc (.cells #[.int .u8 255,.int .u8 3] 143)).alloc (.cells #[.int .u8 255,.int .u8 3] 143)) (.cells #[.int .u8 255,.int .u8 3,.int .u8 hi.toNat,.int .u8 lo.toNat] 5)
     rw [show ((wc.alloc (.cells #[.int .u8 255,.int .u8 3] 143)).alloc (.cells #[.int .u8 255,.int .u8 3] 143)).heap.size=wc.heap.size+1+1 by simp] at h
     exact h
    ·exact (((((Below.refl wc.heap.size wc).alloc (Nat.le_refl _) _).alloc (by simp) _).alloc (by simp;omega) _).cell (p:=⟨w.heap.size,0,none⟩) hlt).trans hc0
    ·exact ((hb0.alloc hs0 _).alloc (by simp;omega) _).alloc (by simp;omega) _
   case rest =>
    obtain ⟨B,hu8,hB,hcc,hb1⟩:=hcut
    subst hu8
    have hs1:=hb1.size
    go_wp2_with (first
     | (at_builtin;refine append_cut rfl _ _ rfl w.heap.size B [0xff,3,hi,lo] hB 2 2 2 2 rfl rfl (by simp) (by simp) (by simp) (by simp) hs1 ([0xff,3] ++ [hi] ++ [lo]) rfl ?_;rintro v2 w2 ho2 hb2)
     | (at_builtin;refine append_cut rfl _ _ rfl w.heap.size B [0xff,3,hi,lo] hB 2 3 1 1 rfl rfl (by simp) (by simp) (by simp) (by simp) hs1 ([0xff,3] ++ [lo]) rfl ?_;rintro v2 w2 ho2 hb2)
     | (at_builtin;refine append_cut rfl _ _ rfl w.heap.size B [0xff,3,hi,lo] hB 0 2 2 2 rfl rfl (by simp) (by simp) (by simp) (by simp) hs1 ([hi] ++ [lo]) rfl ?_;rintro v2 w2 ho2 hb2)
     | (at_builtin;refine append_cut rfl _ _ rfl w.heap.size B [0xff,3,hi,lo] hB 0 3 1 1 rfl rfl (by simp) (by simp) (by simp) (by simp) hs1 [lo] rfl ?_;rintro v2 w2 ho2 hb2))
    go_ret
    exact ⟨_,rfl,ho2,hb1.trans hb2⟩
end Go.Proofs.YtkcghhkkepndnaaGreatDoor
