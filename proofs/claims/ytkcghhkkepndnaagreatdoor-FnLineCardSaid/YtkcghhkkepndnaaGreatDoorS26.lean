/- The parts of PppUnpack, the program's: what is left behind the front, how many bytes a protocol has, its number; what lay in memory stands. PppUnpack, the program's: of any text what is read; what lay in memory stands. -/
import Derived.Test.YtkcghhkkepndnaaGreatDoorS22
import Derived.Test.YtkcghhkkepndnaaGreatDoorS15
import Derived.Test.YtkcghhkkepndnaaGreatDoorShW
namespace Go.Proofs.YtkcghhkkepndnaaGreatDoor
open Go.RowKit
def Lies (w:World) (B off:Nat) (l:List UInt8):Prop:=∀ i (h:i<l.length),w.cell? ⟨B,off+i,none⟩=some (.int .u8 l[i].toNat)
theorem Lies.below {w w':World} {B off N:Nat} {l:List UInt8} (h:Lies w B off l) (hb:Below N w w') (hB:B<N):Lies w' B off l :=
  fun i hi=>(hb.cell (p:=⟨B,off+i,none⟩) hB).trans (h i hi)
theorem Lies.drop {w:World} {B off:Nat} {l:List UInt8} (h:Lies w B off l) (n:Nat):Lies w B (off+n) (l.drop n):=fun i hi=>by
  rw [List.length_drop] at hi
  rw [Nat.add_assoc,h (n+i) (by omega)]
  simp
theorem and1_u8 (c:UInt8):bits .and .u8 (c.toNat:Int) 1=((c.toNat % 2:Nat):Int):=by
  have h:=u8_and_nat c.toNat 1 c.toNat_lt (by decide)
  rw [nat_mask1] at h
  exact h
set_option maxHeartbeats 400000 in
theorem protoSize0 (B off cap:Nat) (w:World) :
    Calls Tryz.prog 121 #[.slice (some ⟨B,off,none⟩) 0 cap] w fun e w'=>e=.returned (.int .i64 2)∧w'=w:=by
  go_enter Tryz.func121,Tryz.ntmps121
  go_wp2
  go_ret
  exact ⟨rfl,rfl⟩
set_option maxHeartbeats 400000 in
theorem protoSize1 (B off cap n:Nat) (c:UInt8) (w:World) (hn:n≤8000) (hl:w.cell? ⟨B,off,none⟩=some (.int .u8 c.toNat)) :
    Calls Tryz.prog 121 #[.slice (some ⟨B,off,none⟩) (n+1) cap] w fun e w'=>e=.returned (.int .i64 (if c.toNat % 2=1 then 1 else 2))∧w'=w:=by
  have d1:(0:Int)<(n:Int)+1:=by omega
  have e1:=and1_u8 c
  rcases Nat.mod_two_eq_zero_or_one c.toNat with h | h
  all_goals
    rw [h] at e1 ⊢
    go_enter Tryz.func121,Tryz.ntmps121
    go_wp2
    go_ret
    exact ⟨rfl,rfl⟩
theorem or8 (a b:Nat) (ha:a<256) (hb:b<256):bits .or .i64 ((a:Int)*256) (b:Int)=((256*a+b:Nat):Int):=by
  have h1:a*256 ||| b=a*2 ^ 8+b:=by
    rw [Nat.mul_comm,show (256:Nat)=2 ^ 8 from rfl,← Nat.two_pow_add_eq_or_of_lt (by omega),Nat.mul_comm]
  show IntKind.i64.wrap ((BitVec.ofInt 64 ((a:Int)*256) ||| BitVec.ofInt 64 (b:Int)).toNat:Int)=_
  rw [show (a:Int)*256=((a*256:Nat):Int) by omega,BitVec.toNat_or,ofInt_u64 (a*256) (by omega),ofInt_u64 b (by omega),h1,IntKind.wrap_i64]
  omega
def numOf (l:List UInt8):Nat:=l.foldl (fun n c=>256*n+c.toNat) 0
set_option maxHeartbeats 1000000 in
theorem highest (B off cap:Nat) (l:List UInt8) (w:World) (hl2:l.length≤2) (hl:Lies w B off l) :
    Calls Tryz.prog 122 #[.slice (some ⟨B,off,none⟩) l.length cap] w fun e w'=>e=.returned (.int .i64 (numOf l:Nat))∧w'=w:=by
  go_enter Tryz.func122,Tryz.ntmps122
  go_wp2
  go_loop [3,8] (fun n i=>∃ (k:Nat),k≤l.length∧i=.int .i64 k∧n=.int .i64 (numOf (l.take k):Nat)) (fun _ i=>l.length - (intOf i).toNat)
  case atStart=>exact ⟨0,Nat.zero_le _,rfl,rfl⟩
  case round =>
    obtain ⟨k,hk,rfl,rfl⟩:=hrel
    by_cases hlt:k<l.length
    · have hc:=hl k hlt
      have HS:Hid (numOf (l.take (k+1))=256*numOf (l.take k)+l[k].toNat):=hide (by unfold numOf;rw [List.take_succ_eq_append_getElem hlt,List.foldl_append];rfl)
      have hk2:k<2:=by omega
      have hn:numOf (l.take k)<256:=by
        rcases l with _ | ⟨c,_ | ⟨d,r⟩⟩
        · simp at hlt
        · simp at hlt
          subst hlt
          simp [numOf]
        · have:=c.toNat_lt
          rcases Nat.lt_or_ge k 1 with h | h
          · have hk0:k=0:=by omega
            subst hk0
            simp [numOf]
          · have hk1:k=1:=by omega
            subst hk1
            simpa [numOf] using this
      have ho:=or8 (numOf (l.take k)) l[k].toNat hn l[k].toNat_lt
      have HW:Hid (wrap64 (l[k].toNat:Int)=(l[k].toNat:Int)):=hide (by have:=l[k].toNat_lt;unfold wrap64;omega)
      generalize numOf (l.take k)=n at *
      have d1:(k:Int)<(l.length:Int):=by omega
      clear hl
      go_wp2
      go_round
      case rel=>exact ⟨k+1,by omega,by go_num,by rw [uh HW,ho,uh HS]⟩
      case measure=>simp [intOf];omega
    · have HK:=hide (List.take_of_length_le (l:=l) (i:=k) (by omega))
      have d1:¬ ((k:Int)<(l.length:Int)):=by omega
      go_wp2
      go_ret
      exact ⟨by rw [uh HK];rfl,rfl⟩
set_option maxHeartbeats 1000000 in
theorem behind (B off cap:Nat) (l:List UInt8) (w:World) (h8:l.length≤8000) (hcap:l.length≤cap) (hB:B<w.heap.size) (hl:Lies w B off l) :
    Calls Tryz.prog 120 #[.slice (some ⟨B,off,none⟩) l.length cap] w fun e w'=>∃ off' cap',e=.returned (.slice (some ⟨B,off',none⟩) (Pp.rest l).length cap')∧(Pp.rest l).length≤cap'∧Lies w' B off' (Pp.rest l)∧Below w.heap.size w w':=by
  have C2:Hid (∀ w,Calls Tryz.prog 108 #[.int .i64 65283] w fun e w'=>e=.returned (.agg #[.int .u8 255,.int .u8 3])∧w'=w.alloc (.cells #[.int .u8 255,.int .u8 3] 143)):=hide fun w=>pairOf 65283 (by decide) w
  by_cases h2:l.length<2
  · have d1:decide ((l.length:Int)<2)=true:=decide_eq_true (by omega)
    have HR:Hid (Pp.rest l=l):=hide (by
      rcases l with _ | ⟨c,_ | ⟨d,r⟩⟩
      · rfl
      · rfl
      · simp at h2;omega)
    go_enter Tryz.func120,Tryz.ntmps120
    go_wp2_with fail
    go_quiet (fail)
    go_wp2
    go_ret
    refine ⟨off,cap,by rw [uh HR];rfl,by rw [uh HR];exact hcap,by rw [uh HR];exact hl,?_⟩
    have h:=Below.refl w.heap.size w
    exact ⟨h.os,h.tape,h.output,h.size,h.block⟩
  · have d1:decide ((l.length:Int)<2)=false:=decide_eq_false (by omega)
    have d2:(2:Int)≤(l.length:Int):=by omega
    have d3:(1:Int)<(l.length:Int):=by omega
    have d4:(0:Int)<(l.length:Int):=by omega
    have d5:(l.length:Int)≤(cap:Int):=by omega
    obtain ⟨c,d,r,rfl⟩:∃ c d r,l=c :: d :: r:=by
      rcases l with _ | ⟨c,_ | ⟨d,r⟩⟩
      · simp at h2
      · simp at h2
      · exact ⟨c,d,r,rfl⟩
    have k0:w.cell? ⟨B,off,none⟩=some (.int .u8 c.toNat):=hl 0 (by simp)
    have k1:w.cell? ⟨B,off+1,none⟩=some (.int .u8 d.toNat):=hl 1 (by simp)
    have HR:Hid (Pp.rest (c :: d :: r)=(if c=0xff∧d=3 then r else c :: d :: r)):=hide rfl
    have hw3:(((c.toNat:Int) == 255)=true∧((d.toNat:Int) == 3)=true∧(c=0xff∧d=3))∨(((c.toNat:Int) == 255)=true∧((d.toNat:Int) == 3)=false∧¬ (c=0xff∧d=3))∨(((c.toNat:Int) == 255)=false∧¬ (c=0xff∧d=3)):=by
      by_cases h1:c=0xff
      · by_cases h3:d=3
        · exact Or.inl ⟨by rw [h1];rfl,by rw [h3];rfl,h1,h3⟩
        · exact Or.inr (Or.inl ⟨by rw [h1];rfl,u8_ne h3,fun h=>h3 h.2⟩)
      · exact Or.inr (Or.inr ⟨u8_ne h1,fun h=>h1 h.1⟩)
    have hlen:(c :: d :: r).length=r.length+2:=rfl
    generalize hN:(c :: d :: r).length=n at *
    have HN:=hide hN
    have HNn:=hide hlen
    clear hN hlen h2
    have HLi:=hide hl
    clear hl
    rcases hw3 with ⟨e1,e2,e3⟩ | ⟨e1,e2,e3⟩ | ⟨e1,e3⟩
    all_goals
      go_enter Tryz.func120,Tryz.ntmps120
      go_wp2_with fail
      go_region_held (fun q=>q.cell? ⟨B,off,none⟩=some (.int .u8 c.toNat)∧q.cell? ⟨B,off+1,none⟩=some (.int .u8 d.toNat)) (first | go_keep) (first
        | (go_at_call 108;refine (uh C2 _).mono ?_;rintro e w2 ⟨rfl,rfl⟩))
      all_goals go_wp2
      all_goals go_ret
      all_goals
        have hb:Below w.heap.size w (w.alloc (.cells #[.int .u8 255,.int .u8 3] 143)).drew:=((Below.refl _ _).alloc (Nat.le_refl _) _).drew
        have hLw:=(uh HLi).below hb hB
        have hN:=uh HNn
        have hr:=uh HR
        first
          | (rw [if_neg e3] at hr
             exact ⟨off,cap,by rw [hr,uh HN];rfl,by rw [hr,uh HN];exact hcap,by rw [hr];exact hLw,hb⟩)
          | (have hr0:r=[]:=List.eq_nil_of_length_eq_zero (by omega)
             subst hr0
             exact ⟨off,0,rfl,Nat.le_refl _,fun i hi=>absurd hi (by simp [Pp.rest]),hb⟩)
          | (have hf:=Pp.rest_front r
             refine ⟨off+2,n - 2,?_,by rw [hf];omega,by rw [hf];exact hLw.drop 2,hb⟩
             rw [hf,show r.length=n - 2 by omega]
             rfl)
end Go.Proofs.YtkcghhkkepndnaaGreatDoor
set_option maxRecDepth 100000
namespace Go.Proofs.YtkcghhkkepndnaaGreatDoor
open Go.RowKit
theorem bytes_of (t:ByteArray) (W:World):∃ cap W',(convert 9 22 (.string t)).run Tryz.prog W=.ok (.slice (some ⟨W.heap.size,0,none⟩) t.data.toList.length cap) W'∧t.data.toList.length≤cap∧Lies W' W.heap.size 0 t.data.toList∧Below W.heap.size W W'∧W.heap.size<W'.heap.size:=by
 have h:=run_bytes_of_string (P:=Tryz.prog) W 9 22 5 t Tryz.underlying9 Tryz.underlying22 Tryz.underlying5
 have hg:=grownCap_ge W t.size 0 5
 refine ⟨_,_,by rw [len_dat];exact h,by rw [len_dat];omega,?_,(Below.refl _ _).drew.alloc (Nat.le_refl _) _,by simp⟩
 intro i hi
 have hh:(W.drew.alloc (.cells (bytesRow t (grownCap W t.size 0 5)) 5 ((bytesRow t (grownCap W t.size 0 5)).size,(bytesRow t (grownCap W t.size 0 5)).size+1))).heap[W.heap.size]?=_:=heap_alloc_new W.drew _
 rw [cell_of_row _ _ _ _ _ _ hh]
 have hi':i<t.size:=by rw [← len_dat];exact hi
 simp [bytesRow,Array.getElem?_append,hi']
theorem conv_lies {w:World} {B off:Nat} {l:List UInt8} (h:Lies w B off l) {cap:Nat}:(convert 22 9 (.slice (some ⟨B,off,none⟩) l.length cap)).run Tryz.prog w=.ok (.string (txt l)) w :=
 run_convert_bytes_back (P:=Tryz.prog) w 22 9 5 ⟨B,off,none⟩ cap l Tryz.underlying22 Tryz.underlying5 Tryz.underlying9 (fun j hj=>by rw [Addr.add_lit];exact h j hj)
theorem infoP:(Tryz.prog.info? 124).map (·.size)=some 3:=by kernel_rfl
theorem row3' {w:World} {B:Nat} {x0 x1 x2:Value} {T:TypeId} (h:w.heap[B]?=some (.cells #[x0,x1,x2] T)) :
  w.cell? ⟨B,0,none⟩=some x0∧w.cell? ⟨B,1,none⟩=some x1∧w.cell? ⟨B,2,none⟩=some x2∧w.frozen? ⟨B,0,none⟩=false∧w.frozen? ⟨B,1,none⟩=false∧w.frozen? ⟨B,2,none⟩=false :=
 ⟨by rw [cell_of_row _ _ _ _ _ _ h];rfl,by rw [cell_of_row _ _ _ _ _ _ h];rfl,by rw [cell_of_row _ _ _ _ _ _ h];rfl,frz h _,frz h _,frz h _⟩
set_option maxHeartbeats 2000000 in
theorem implUnp_at (t:ByteArray) (w:World) (h8:t.size≤8000) :
  Calls Tryz.prog 94 #[.string t] w fun e w'=>e=.returned (outV (Pp.unpack t.data.toList))∧Below w.heap.size w w':=by
 have d0:¬ ((8000:Int)<(t.size:Int)):=by omega
 have hl8:=len_dat t
 have HRL:=hide (Pp.rest_len t.data.toList)
 rw [show Pp.unpack t.data.toList=Pp.read (Pp.rest t.data.toList) by unfold Pp.unpack;rw [len_dat,if_pos h8]]
 obtain ⟨cap,W1,hcv,hcap,hl1,hb1,hlt1⟩:=bytes_of t (w.alloc (.cells #[.int .i64 0,.string ⟨#[]⟩,.int .i64 0] 124))
 have C1:=hide (behind _ 0 cap t.data.toList W1 (by omega) hcap hlt1 hl1)
 have hW:(w.alloc (.cells #[.int .i64 0,.string ⟨#[]⟩,.int .i64 0] 124)).heap.size=w.heap.size+1:=by simp
 rw [hW] at hcv C1 hb1 hlt1
 have hO1:W1.heap[w.heap.size]?=some (.cells #[.int .i64 0,.string ⟨#[]⟩,.int .i64 0] 124):=(hb1.block w.heap.size (Nat.lt_succ_self _)).trans (heap_alloc_new w _)
 have hB1:Below w.heap.size w W1:=((Below.refl _ _).alloc (Nat.le_refl _) _).trans (hb1.mono (Nat.le_succ _))
 have HX:=hide (And.intro hO1 hB1)
 clear hl1 hb1 hO1 hB1 hcap hW
 generalize t.data.toList=l at *
 obtain ⟨L,hL⟩:∃ L,Pp.rest l=L:=⟨_,rfl⟩
 rw [hl8] at C1 hcv HRL
 rw [hL] at C1 HRL ⊢
 clear hl8 hL
 go_enter Tryz.func94,Tryz.ntmps94
 go_wp2_with fail
 refine (uh C1).mono ?_
 rintro e W2 ⟨off,cap2,rfl,hcap2,hl2,hb2⟩
 have hO2:=(hb2.block w.heap.size (by omega)).trans (uh HX).1
 have hB2:Below w.heap.size w W2:=(uh HX).2.trans (hb2.mono (by omega))
 have hrl:=uh HRL
 clear HX C1 hcv hb2 HRL
 have hs2:=hB2.size
 obtain ⟨o0,o1,o2,q0,q1,q2⟩:=row3' hO2
 have HO:=hide hO2
 clear hO2
 have FIN:Hid (∀ x y z:Value,(loadVar 124 ⟨w.heap.size,0,none⟩).run Tryz.prog (((W2.setCell ⟨w.heap.size,0,none⟩ x).setCell ⟨w.heap.size,1,none⟩ y).setCell ⟨w.heap.size,2,none⟩ z)=.ok (.agg #[x,y,z]) (((W2.setCell ⟨w.heap.size,0,none⟩ x).setCell ⟨w.heap.size,1,none⟩ y).setCell ⟨w.heap.size,2,none⟩ z)):=by
  refine hide fun x y z=>?_
  have h:=heap_setCell_same _ _ 2 _ _ z (heap_setCell_same _ _ 1 _ _ y (heap_setCell_same _ _ 0 _ _ x (uh HO)))
  exact run_loadVar_row (P:=Tryz.prog) _ _ 124 124 #[x,y,z] (0,0) _ h Tryz.underlying124 rfl infoP
 have BEL:Hid (∀ x y z:Value,Below w.heap.size w (((W2.setCell ⟨w.heap.size,0,none⟩ x).setCell ⟨w.heap.size,1,none⟩ y).setCell ⟨w.heap.size,2,none⟩ z)) :=
  hide fun x y z=>((hB2.setCell (p:=⟨w.heap.size,0,none⟩) (Nat.le_refl _) _).setCell (p:=⟨w.heap.size,1,none⟩) (Nat.le_refl _) _).setCell (p:=⟨w.heap.size,2,none⟩) (Nat.le_refl _) _
 have hle:L.length≤8000:=by omega
 have HL2:=hide hl2
 clear hl2 HO hrl hB2
 rcases L with _ | ⟨c,L⟩
 ·have C2:=hide (protoSize0 (w.heap.size+1) off cap2 W2)
  go_wp2_with (first
   | (go_at_call 121;refine (uh C2).mono ?_;rintro e w3 ⟨rfl,hw⟩;replace hw:=hw.symm;subst hw))
  refine bodyPost_ret (v:=outV ⟨0,[],4⟩) (by simp [results,Tryz.results94,asAddr,uh FIN,outV,txt]) rfl ⟨rfl,uh BEL _ _ _⟩
 ·have hcc:W2.cell? ⟨w.heap.size+1,off,none⟩=some (.int .u8 c.toNat):=(uh HL2) 0 (by simp)
  have C2:=hide (protoSize1 (w.heap.size+1) off cap2 L.length c W2 (by simp at hle;omega) hcc)
  have hlt:=c.toNat_lt
  rcases Nat.mod_two_eq_zero_or_one c.toNat with ho | ho
  ·rw [if_neg (by omega)] at C2
   rcases L with _ | ⟨d,r⟩
   ·have HR:Hid (Pp.read [c]=⟨0,[],4⟩):=hide (by simp only [Pp.read];rw [if_neg (by omega)])
    clear ho hcc
    go_wp2_with (first
     | (go_at_call 121;refine (uh C2).mono ?_;rintro e w3 ⟨rfl,hw⟩;replace hw:=hw.symm;subst hw))
    refine bodyPost_ret (v:=outV ⟨0,[],4⟩) (by simp [results,Tryz.results94,asAddr,uh FIN,outV,txt]) rfl ⟨by rw [uh HR],uh BEL _ _ _⟩
   ·have hltd:=d.toNat_lt
    have C3:=hide (highest (w.heap.size+1) off 2 [c,d] W2 (by simp) (fun i hi=>by
     have h:=uh HL2 i (by simp at hi ⊢;omega)
     rw [h]
     rcases i with _ | _ | i
     ·rfl
     ·rfl
     ·exact absurd hi (by simp)))
    rw [show numOf [c,d]=256*c.toNat+d.toNat by simp [numOf]] at C3
    have C4:=hide fun v=>implProto ((256*c.toNat+d.toNat:Nat):Int) v
    simp only [List.length_cons] at hle hcap2 C2 ⊢
    have d1:¬ ((r.length:Int)+1+1<2):=by omega
    have d2:(2:Int)≤(cap2:Int):=by omega
    by_cases hd:d.toNat % 2=1
    ·have HR:Hid (Pp.read (c :: d :: r)=⟨(256*c.toNat+d.toNat:Nat),r,0⟩):=hide (by simp only [Pp.read];rw [if_neg (by omega),if_pos hd])
     rw [show Pp.ok ((256*c.toNat+d.toNat:Nat):Int)=true from Pp.ok_nat (by omega) (by omega) (by omega)] at C4
     generalize 256*c.toNat+d.toNat=N at *
     clear ho hcc hd
     by_cases hr:r=[]
     ·subst hr
      have hcv:(convert 22 9 (.slice (some ⟨w.heap.size+1,off,none⟩) 0 0)).run Tryz.prog W2=.ok (.string (txt [])) W2:=conv_lies (l:=[]) (fun i hi=>absurd hi (by simp))
      go_wp2_with (first
       | (go_at_call 121;refine (uh C2).mono ?_;rintro e w3 ⟨rfl,hw⟩;replace hw:=hw.symm;subst hw)
       | (go_at_call 122;refine (uh C3).mono ?_;rintro e w3 ⟨rfl,hw⟩;replace hw:=hw.symm;subst hw)
       | (go_at_call 106;refine (uh C4 _).mono ?_;rintro e w3 ⟨rfl,hw⟩;replace hw:=hw.symm;subst hw))
      refine bodyPost_ret (v:=outV ⟨(N:Nat),[],0⟩) (by simp [results,Tryz.results94,asAddr,uh FIN,outV,txt]) rfl ⟨by rw [uh HR],uh BEL _ _ _⟩
     ·have hr2:¬ (r.length+1+1=2):=fun h=>hr (List.eq_nil_of_length_eq_zero (by omega))
      have hcv:(convert 22 9 (.slice (some ⟨w.heap.size+1,off+2,none⟩) r.length r.length)).run Tryz.prog W2=.ok (.string (txt r)) W2:=conv_lies ((uh HL2).drop 2)
      go_wp2_with (first
       | (go_at_call 121;refine (uh C2).mono ?_;rintro e w3 ⟨rfl,hw⟩;replace hw:=hw.symm;subst hw)
       | (go_at_call 122;refine (uh C3).mono ?_;rintro e w3 ⟨rfl,hw⟩;replace hw:=hw.symm;subst hw)
       | (go_at_call 106;refine (uh C4 _).mono ?_;rintro e w3 ⟨rfl,hw⟩;replace hw:=hw.symm;subst hw))
      refine bodyPost_ret (v:=outV ⟨(N:Nat),r,0⟩) (by simp [results,Tryz.results94,asAddr,uh FIN,outV,txt]) rfl ⟨by rw [uh HR],uh BEL _ _ _⟩
    ·have HR:Hid (Pp.read (c :: d :: r)=⟨0,[],3⟩):=hide (by simp only [Pp.read];rw [if_neg (by omega),if_neg hd])
     rw [show Pp.ok ((256*c.toNat+d.toNat:Nat):Int)=false from decide_eq_false (by omega)] at C4
     generalize 256*c.toNat+d.toNat=N at *
     clear ho hcc hd
     go_wp2_with (first
      | (go_at_call 121;refine (uh C2).mono ?_;rintro e w3 ⟨rfl,hw⟩;replace hw:=hw.symm;subst hw)
      | (go_at_call 122;refine (uh C3).mono ?_;rintro e w3 ⟨rfl,hw⟩;replace hw:=hw.symm;subst hw)
      | (go_at_call 106;refine (uh C4 _).mono ?_;rintro e w3 ⟨rfl,hw⟩;replace hw:=hw.symm;subst hw))
     refine bodyPost_ret (v:=outV ⟨0,[],3⟩) (by simp [results,Tryz.results94,asAddr,uh FIN,outV,txt]) rfl ⟨by rw [uh HR],uh BEL _ _ _⟩
  ·rw [if_pos ho] at C2
   have C3:=hide (highest (w.heap.size+1) off 1 [c] W2 (by simp) (fun i hi=>by
    have h:=uh HL2 i (by simp at hi ⊢;omega)
    rw [h]
    rcases i with _ | i
    ·rfl
    ·exact absurd hi (by simp)))
   rw [show numOf [c]=c.toNat by simp [numOf]] at C3
   have C4:=hide fun v=>implProto (c.toNat:Int) v
   rw [Pp.ok_nat (by omega) ho (by omega)] at C4
   simp only [List.length_cons] at hle hcap2 C2 ⊢
   have d1:¬ ((L.length:Int)+1<1):=by omega
   have d2:(1:Int)≤(cap2:Int):=by omega
   have HR:Hid (Pp.read (c :: L)=⟨c.toNat,L,0⟩):=by
    have h:=Pp.read_one (k:=c.toNat) hlt ho L
    rw [show UInt8.ofNat c.toNat=c by simp] at h
    exact hide h
   generalize c.toNat=N at *
   clear ho hcc
   by_cases hr:L=[]
   ·subst hr
    have hcv:(convert 22 9 (.slice (some ⟨w.heap.size+1,off,none⟩) 0 0)).run Tryz.prog W2=.ok (.string (txt [])) W2:=conv_lies (l:=[]) (fun i hi=>absurd hi (by simp))
    go_wp2_with (first
     | (go_at_call 121;refine (uh C2).mono ?_;rintro e w3 ⟨rfl,hw⟩;replace hw:=hw.symm;subst hw)
     | (go_at_call 122;refine (uh C3).mono ?_;rintro e w3 ⟨rfl,hw⟩;replace hw:=hw.symm;subst hw)
     | (go_at_call 106;refine (uh C4 _).mono ?_;rintro e w3 ⟨rfl,hw⟩;replace hw:=hw.symm;subst hw))
    refine bodyPost_ret (v:=outV ⟨(N:Nat),[],0⟩) (by simp [results,Tryz.results94,asAddr,uh FIN,outV,txt]) rfl ⟨by rw [uh HR],uh BEL _ _ _⟩
   ·have hr2:¬ (L.length+1=1):=fun h=>hr (List.eq_nil_of_length_eq_zero (by omega))
    have hcv:(convert 22 9 (.slice (some ⟨w.heap.size+1,off+1,none⟩) L.length L.length)).run Tryz.prog W2=.ok (.string (txt L)) W2:=conv_lies ((uh HL2).drop 1)
    go_wp2_with (first
     | (go_at_call 121;refine (uh C2).mono ?_;rintro e w3 ⟨rfl,hw⟩;replace hw:=hw.symm;subst hw)
     | (go_at_call 122;refine (uh C3).mono ?_;rintro e w3 ⟨rfl,hw⟩;replace hw:=hw.symm;subst hw)
     | (go_at_call 106;refine (uh C4 _).mono ?_;rintro e w3 ⟨rfl,hw⟩;replace hw:=hw.symm;subst hw))
    refine bodyPost_ret (v:=outV ⟨(N:Nat),L,0⟩) (by simp [results,Tryz.results94,asAddr,uh FIN,outV,txt]) rfl ⟨by rw [uh HR],uh BEL _ _ _⟩
set_option maxHeartbeats 400000 in
theorem implUnpAll (t:ByteArray) (w:World) (ht:t.size≤maxLen) :
  Calls Tryz.prog 94 #[.string t] w fun e w'=>e=.returned (outV (Pp.unpack t.data.toList))∧Below w.heap.size w w':=by
 by_cases h8:t.size≤8000
 ·exact implUnp_at t w h8
 ·unfold maxLen at ht
  have d0:(8000:Int)<(t.size:Int):=by omega
  rw [show Pp.unpack t.data.toList=⟨0,[],2⟩ by unfold Pp.unpack;rw [len_dat,if_neg h8]]
  go_enter Tryz.func94,Tryz.ntmps94
  go_wp2
  refine bodyPost_ret (v:=outV ⟨0,[],2⟩) ?_ rfl ⟨rfl,(Below.refl _ _).alloc (Nat.le_refl _) _⟩
  simp [results,Tryz.results94,go_sem,outV,txt]
end Go.Proofs.YtkcghhkkepndnaaGreatDoor
