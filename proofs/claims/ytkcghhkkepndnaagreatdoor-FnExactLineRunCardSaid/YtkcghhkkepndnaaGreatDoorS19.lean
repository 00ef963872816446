/- PppPack, the program's and the model's: of a protocol and a text its packet; what lay in memory stands. Frame, the program's and the model's: a flag, what is stuffed of a text and its Tail, a flag; what lay in memory stands; under the library's two tables as they are laid. The model's copy of an end, and its LapbAgain; what lay in memory stands. The model's LapbAgain; what lay in memory stands. -/
import Derived.Test.YtkcghhkkepndnaaGreatDoorS17
import Derived.ArgAppend
import Derived.Lib.AppendStr
import Derived.Deep.DeepCutAuto
import Derived.Test.YtkcghhkkepndnaaGreatDoorS04
import Derived.Test.YtkcghhkkepndnaaGreatDoorS06
import Derived.Test.YtkcghhkkepndnaaGreatDoorS08
import Derived.Test.YtkcghhkkepndnaaGreatDoorS15
import Derived.Test.YtkcghhkkepndnaaGreatDoorShW
namespace Go.Proofs.YtkcghhkkepndnaaGreatDoor
open Go.RowKit
theorem head_ways (k:Nat) (a p:Bool) (P:Prop)
  (h0:k=49185→Pp.head k a p=[0xff,3] ++ [UInt8.ofNat (k / 256)] ++ [UInt8.ofNat k]→P)
  (h1:k≠49185→a=false→p=false→Pp.head k a p=[0xff,3] ++ [UInt8.ofNat (k / 256)] ++ [UInt8.ofNat k]→P)
  (h2:k≠49185→a=false→p=true→255<k→Pp.head k a p=[0xff,3] ++ [UInt8.ofNat (k / 256)] ++ [UInt8.ofNat k]→P)
  (h3:k≠49185→a=false→p=true→k≤255→Pp.head k a p=[0xff,3] ++ [UInt8.ofNat k]→P)
  (h4:k≠49185→a=true→p=false→Pp.head k a p=[UInt8.ofNat (k / 256)] ++ [UInt8.ofNat k]→P)
  (h5:k≠49185→a=true→p=true→255<k→Pp.head k a p=[UInt8.ofNat (k / 256)] ++ [UInt8.ofNat k]→P)
  (h6:k≠49185→a=true→p=true→k≤255→Pp.head k a p=[UInt8.ofNat k]→P):P:=by
 by_cases e:k=49185
 ·exact h0 e (by simp [Pp.head,e])
 ·cases a<;>cases p
  ·exact h1 e rfl rfl (by simp [Pp.head])
  ·by_cases f:255<k
   ·exact h2 e rfl rfl f (by simp [Pp.head,f])
   ·exact h3 e rfl rfl (by omega) (by simp [Pp.head,f,e])
  ·exact h4 e rfl rfl (by simp [Pp.head,e])
  ·by_cases f:255<k
   ·exact h5 e rfl rfl f (by simp [Pp.head,f,e])
   ·exact h6 e rfl rfl (by omega) (by simp [Pp.head,f,e])
theorem cell1 {x:Int} {c:UInt8} (h:x=(c.toNat:Int)):(#[Value.int .u8 x]).toList=vals [c]:=by rw [h];rfl
theorem own_conv4 {w:World} {base:Nat} {v:Value} {n:Nat} {l:List UInt8} {t:ByteArray} (h:w.ownsRow base 5 1 v n (vals l)) (hl:l.length≤4) (ht:t.size≤8000) :
  ∃ Z,Hid (Z=txt l)∧(convert 22 9 v).run Tryz.prog w=.ok (.string Z) w∧¬ (9223372036854775807<Z.size+t.size) :=
 ⟨txt l,hide rfl,own_conv h,by rw [txt_size];omega⟩
set_option maxHeartbeats 2000000 in
theorem specPack_at (k:Nat) (t:ByteArray) (a p:Bool) (w:World) (hk:k<65536) (ht:t.size≤8000) :
  Calls Tryz.prog 72 #[.int .i64 k,.string t,.bool a,.bool p] w fun e w'=>e=.returned (.string (txt (Pp.head k a p) ++ t))∧Below w.heap.size w w':=by
 have HH:=hide (hi_byte hk)
 have HL:=hide (lo_byte k)
 obtain ⟨hi,hhi⟩:∃ c,UInt8.ofNat (k / 256)=c:=⟨_,rfl⟩
 obtain ⟨lo,hlo⟩:∃ c,UInt8.ofNat k=c:=⟨_,rfl⟩
 have HW:=head_ways k a p
 rw [hhi] at HH
 rw [hlo] at HL
 rw [hhi,hlo] at HW
 clear hhi hlo
 refine HW _ (fun e r=>?_) (fun e e1 e2 r=>?_) (fun e e1 e2 e3 r=>?_) (fun e e1 e2 e3 r=>?_) (fun e e1 e2 r=>?_) (fun e e1 e2 e3 r=>?_) (fun e e1 e2 e3 r=>?_)
 all_goals
  rw [r]
  clear r HW
  first
   | (have d1:((k:Int) == 49185)=true:=by (rw [e];rfl))
   | (have d1:((k:Int) == 49185)=false:=beq_eq_false_iff_ne.2 (by omega))
  try subst e1
  try subst e2
  first
   | (have d2:decide ((255:Int)<(k:Int))=true:=decide_eq_true (by omega))
   | (have d2:decide ((255:Int)<(k:Int))=false:=decide_eq_false (by omega))
   | skip
  clear e
  go_enter Tryz.func72,Tryz.ntmps72
  go_upto_region 2 with fail
  go_cut [10] (fun v wx=>wx.ownsRow w.heap.size 5 1 v ([]:List UInt8).length (vals [])∧Below w.heap.size w wx)
  case first =>
   go_wp2_with fail
   go_meet
   exact ⟨World.ownsRow_lit w #[] 0 (by omega) (Nat.zero_le _) rfl,(Below.refl _ _).alloc (Nat.le_refl _) _⟩
  case rest =>
   obtain ⟨ho0,hb0⟩:=hcut
   have HO0:=hide ho0
   clear ho0
   have hs0:=hb0.size
   go_wp2_with (first
    | (at_builtin;refine append_bytes rfl _ _ rfl w.heap.size u10 [] [0xff,3] rfl (uh HO0) 2 rfl rfl rfl (by simp) hs0 ?_;rintro v1 w1 ho1 hb1;have HO1:=hide ho1;clear ho1 HO0;have hs1:=Nat.le_trans hs0 hb1.size)
    | (at_builtin;refine append_bytes rfl _ _ rfl w.heap.size u10 [] [hi] rfl (uh HO0) 1 rfl rfl (cell1 (uh HH)) (by simp) hs0 ?_;rintro v2 w2 ho2 hb2;have HO2:=hide ho2;clear ho2 HO0;have hs2:=Nat.le_trans hs0 hb2.size)
    | (at_builtin;refine append_bytes rfl _ _ rfl w.heap.size v1 [0xff,3] [hi] rfl (uh HO1) 1 rfl rfl (cell1 (uh HH)) (by simp) hs1 ?_;rintro v2 w2 ho2 hb2;have HO2:=hide ho2;clear ho2 HO1;have hs2:=Nat.le_trans hs1 hb2.size)
    | (at_builtin;refine append_bytes rfl _ _ rfl w.heap.size v2 _ [lo] rfl (uh HO2) 1 rfl rfl (cell1 (by first | exact uh HL | (have hl:=uh HL;omega))) (by simp) hs2 ?_;rintro v3 w3 ho3 hb3;obtain ⟨Z,hZ,hcv,hcat⟩:=own_conv4 ho3 (by simp) ht;clear ho3 HO2)
    | (at_builtin;refine append_bytes rfl _ _ rfl w.heap.size v1 [0xff,3] [lo] rfl (uh HO1) 1 rfl rfl (cell1 (by first | exact uh HL | (have hl:=uh HL;omega))) (by simp) hs1 ?_;rintro v3 w3 ho3 hb3;obtain ⟨Z,hZ,hcv,hcat⟩:=own_conv4 ho3 (by simp) ht;clear ho3 HO1)
    | (at_builtin;refine append_bytes rfl _ _ rfl w.heap.size u10 [] [lo] rfl (uh HO0) 1 rfl rfl (cell1 (by first | exact uh HL | (have hl:=uh HL;omega))) (by simp) hs0 ?_;rintro v3 w3 ho3 hb3;obtain ⟨Z,hZ,hcv,hcat⟩:=own_conv4 ho3 (by simp) ht;clear ho3 HO0))
   go_ret
   first
    | exact ⟨by rw [uh hZ];rfl,hb0.trans (hb1.trans (hb2.trans hb3))⟩
    | exact ⟨by rw [uh hZ];rfl,hb0.trans (hb1.trans hb3)⟩
    | exact ⟨by rw [uh hZ];rfl,hb0.trans (hb2.trans hb3)⟩
    | exact ⟨by rw [uh hZ];rfl,hb0.trans hb3⟩
theorem tailB_size (l:List UInt8) (b:Bool):(tailB l b).size=tailN b:=by
 cases b
 ·exact strOfNums_size _
 ·exact strOfNums_size _
def frameV (t:ByteArray) (x:Int) (b:Bool):ByteArray:=if 1≤t.size∧t.size≤300∧accOk x=true then ⟨#[126]⟩ ++ txt (Hd.stuff x.toNat (t ++ tailB t.data.toList b).data.toList) ++ ⟨#[126]⟩ else ⟨#[]⟩
theorem stuff_sz (a:Nat) (u:ByteArray):(txt (Hd.stuff a u.data.toList)).size≤2*u.size:=by
 rw [txt_size]
 have:=Hd.stuff_len a u.data.toList
 have e:u.data.toList.length=u.size:=(Lib.size_eq u).symm
 omega
set_option maxHeartbeats 400000 in
theorem implFrame_at (t:ByteArray) (a:Nat) (b:Bool) (w:World) (h1:1≤t.size) (h2:t.size≤300) (ha:a<4294967296) (hT:Lib.Utf8Tabs 0 1 w) :
  Calls Tryz.prog 81 #[.string t,.int .i64 a,.bool b] w fun e w'=>e=.returned (.string (⟨#[126]⟩ ++ txt (Hd.stuff a (t ++ tailB t.data.toList b).data.toList) ++ ⟨#[126]⟩))∧Below w.heap.size w w':=by
 have d1:¬ ((t.size:Int)<1):=by omega
 have d2:¬ ((300:Int)<(t.size:Int)):=by omega
 have c1:=accmRight a w
 rw [accOk_nat ha] at c1
 have c2:=implTail t b w (by unfold maxLen;omega) (by omega) hT
 have hs:=tailB_size t.data.toList b
 have hb4:=tailN_le b
 generalize tailB t.data.toList b=T at *
 have hU:(t ++ T).size≤304:=by rw [ByteArray.size_append];omega
 have hcat:¬ (9223372036854775807<t.size+T.size):=by omega
 have C3:=hide fun w=>implStuff (t ++ T) a w ha (by omega)
 have hV:=stuff_sz a (t ++ T)
 obtain ⟨U,hUe⟩:∃ U,t ++ T=U:=⟨_,rfl⟩
 rw [hUe] at hU C3 hV
 rw [hUe]
 generalize txt (Hd.stuff a U.data.toList)=V at *
 have HC:=hide hcat
 have HV:=hide hV
 clear hcat hV
 go_enter Tryz.func81,Tryz.ntmps81
 go_wp2_with (first
  | (go_at_call 111;refine c1.mono ?_;rintro e w1 ⟨rfl,hw⟩;replace hw:=hw.symm;subst hw))
 refine c2.mono ?_
 rintro e w2 ⟨rfl,hb2⟩
 have hcat:=uh HC
 go_wp2_with fail
 refine (uh C3 _).mono ?_
 rintro e w3 ⟨rfl,hb3⟩
 clear hcat HC hUe
 have hV:=uh HV
 have hcat2:¬ (9223372036854775807<(ByteArray.mk #[126]).size+V.size):=by rw [show (ByteArray.mk #[126]).size=1 from rfl];omega
 obtain ⟨Z,hZ⟩:∃ Z,ByteArray.mk #[126] ++ V=Z:=⟨_,rfl⟩
 have hZs:Z.size=1+V.size:=by rw [← hZ,ByteArray.size_append];rfl
 have hcat3:¬ (9223372036854775807<Z.size+(ByteArray.mk #[126]).size):=by rw [show (ByteArray.mk #[126]).size=1 from rfl];omega
 clear hZs
 go_wp2
 go_ret
 exact ⟨by rw [hZ];rfl,hb2.trans (hb3.mono hb2.size)⟩
set_option maxHeartbeats 400000 in
theorem specFrame_at (t:ByteArray) (a:Nat) (b:Bool) (w:World) (h1:1≤t.size) (h2:t.size≤300) (ha:a<4294967296) :
  Calls Tryz.prog 74 #[.string t,.int .i64 a,.bool b] w fun e w'=>e=.returned (.string (⟨#[126]⟩ ++ txt (Hd.stuff a (t ++ tailB t.data.toList b).data.toList) ++ ⟨#[126]⟩))∧Below w.heap.size w w':=by
 have d1:¬ ((t.size:Int)<1):=by omega
 have d2:¬ ((300:Int)<(t.size:Int)):=by omega
 have c1:=specAccm a w
 rw [accOk_nat ha] at c1
 have c2:=specTail t b w (by unfold maxLen;omega)
 have hs:=tailB_size t.data.toList b
 have hb4:=tailN_le b
 generalize tailB t.data.toList b=T at *
 have hU:(t ++ T).size≤304:=by rw [ByteArray.size_append];omega
 have hcat:¬ (9223372036854775807<t.size+T.size):=by omega
 have C3:=hide fun w=>specStuff (t ++ T) a w ha (by omega)
 have hV:=stuff_sz a (t ++ T)
 obtain ⟨U,hUe⟩:∃ U,t ++ T=U:=⟨_,rfl⟩
 rw [hUe] at hU C3 hV
 rw [hUe]
 generalize txt (Hd.stuff a U.data.toList)=V at *
 have HC:=hide hcat
 have HV:=hide hV
 clear hcat hV
 go_enter Tryz.func74,Tryz.ntmps74
 go_wp2_with (first
  | (go_at_call 99;refine c1.mono ?_;rintro e w1 ⟨rfl,hw⟩;replace hw:=hw.symm;subst hw))
 refine c2.mono ?_
 rintro e w2 ⟨rfl,hb2⟩
 have hcat:=uh HC
 go_wp2_with fail
 refine (uh C3 _).mono ?_
 rintro e w3 ⟨rfl,hb3⟩
 clear hcat HC hUe
 have hV:=uh HV
 have hcat2:¬ (9223372036854775807<(ByteArray.mk #[126]).size+V.size):=by rw [show (ByteArray.mk #[126]).size=1 from rfl];omega
 obtain ⟨Z,hZ⟩:∃ Z,ByteArray.mk #[126] ++ V=Z:=⟨_,rfl⟩
 have hZs:Z.size=1+V.size:=by rw [← hZ,ByteArray.size_append];rfl
 have hcat3:¬ (9223372036854775807<Z.size+(ByteArray.mk #[126]).size):=by rw [show (ByteArray.mk #[126]).size=1 from rfl];omega
 clear hZs
 go_wp2
 go_ret
 exact ⟨by rw [hZ];rfl,hb2.trans (hb3.mono hb2.size)⟩
set_option maxHeartbeats 400000 in
theorem implFrameAll (t:ByteArray) (x:Int) (b:Bool) (w:World) (ht:t.size≤maxLen) (hT:Lib.Utf8Tabs 0 1 w) :
  Calls Tryz.prog 81 #[.string t,.int .i64 x,.bool b] w fun e w'=>e=.returned (.string (frameV t x b))∧Below w.heap.size w w':=by
 unfold maxLen at ht
 by_cases h1:1≤t.size
 ·by_cases h2:t.size≤300
  ·by_cases hx:accOk x=true
   ·obtain ⟨a,rfl,ha⟩:=accOk_get hx
    rw [show frameV t a b=_ from if_pos ⟨h1,h2,hx⟩,Int.toNat_natCast]
    exact implFrame_at t a b w h1 h2 ha hT
   ·rw [show frameV t x b=_ from if_neg fun h=>hx h.2.2]
    have d1:¬ ((t.size:Int)<1):=by omega
    have d2:¬ ((300:Int)<(t.size:Int)):=by omega
    have c1:=accmRight x w
    rw [Bool.not_eq_true] at hx
    rw [hx] at c1
    go_enter Tryz.func81,Tryz.ntmps81
    go_wp2_with (first
     | (go_at_call 111;refine c1.mono ?_;rintro e w1 ⟨rfl,rfl⟩))
    go_ret
    exact ⟨rfl,Below.refl _ _⟩
  ·rw [show frameV t x b=_ from if_neg fun h=>h2 h.2.1]
   have d1:¬ ((t.size:Int)<1):=by omega
   have d2:(300:Int)<(t.size:Int):=by omega
   go_enter Tryz.func81,Tryz.ntmps81
   go_wp2
   go_ret
   exact ⟨rfl,Below.refl _ _⟩
 ·rw [show frameV t x b=_ from if_neg fun h=>h1 h.1]
  have d1:(t.size:Int)<1:=by omega
  go_enter Tryz.func81,Tryz.ntmps81
  go_wp2
  go_ret
  exact ⟨rfl,Below.refl _ _⟩
set_option maxHeartbeats 400000 in
theorem specFrameAll (t:ByteArray) (x:Int) (b:Bool) (w:World) (ht:t.size≤maxLen) :
  Calls Tryz.prog 74 #[.string t,.int .i64 x,.bool b] w fun e w'=>e=.returned (.string (frameV t x b))∧Below w.heap.size w w':=by
 unfold maxLen at ht
 by_cases h1:1≤t.size
 ·by_cases h2:t.size≤300
  ·by_cases hx:accOk x=true
   ·obtain ⟨a,rfl,ha⟩:=accOk_get hx
    rw [show frameV t a b=_ from if_pos ⟨h1,h2,hx⟩,Int.toNat_natCast]
    exact specFrame_at t a b w h1 h2 ha
   ·rw [show frameV t x b=_ from if_neg fun h=>hx h.2.2]
    have d1:¬ ((t.size:Int)<1):=by omega
    have d2:¬ ((300:Int)<(t.size:Int)):=by omega
    have c1:=specAccm x w
    rw [Bool.not_eq_true] at hx
    rw [hx] at c1
    go_enter Tryz.func74,Tryz.ntmps74
    go_wp2_with (first
     | (go_at_call 99;refine c1.mono ?_;rintro e w1 ⟨rfl,rfl⟩))
    go_ret
    exact ⟨rfl,Below.refl _ _⟩
  ·rw [show frameV t x b=_ from if_neg fun h=>h2 h.2.1]
   have d1:¬ ((t.size:Int)<1):=by omega
   have d2:(300:Int)<(t.size:Int):=by omega
   go_enter Tryz.func74,Tryz.ntmps74
   go_wp2
   go_ret
   exact ⟨rfl,Below.refl _ _⟩
 ·rw [show frameV t x b=_ from if_neg fun h=>h1 h.1]
  have d1:(t.size:Int)<1:=by omega
  go_enter Tryz.func74,Tryz.ntmps74
  go_wp2
  go_ret
  exact ⟨rfl,Below.refl _ _⟩
def RoomS (w:World) (v:Value):Prop :=
 v=.slice none 0 0∨∃ g o n cp cur,v=.slice (some ⟨g,o,none⟩) n cp∧w.heap[g]?=some (.cells cur 9)∧n≤cp∧o+cp≤cur.size
def HoldsR (w:World) (v:Value) (L:List ByteArray):Prop:=HoldsS w v L∧RoomS w v
theorem RoomS.other {w w':World} {v:Value} (h:RoomS w v) (hw:∀ g cur,v.ownBlock=some g→w.heap[g]?=some (.cells cur 9)→w'.heap[g]?=w.heap[g]?):RoomS w' v:=by
 rcases h with h | ⟨g,o,n,cp,cur,h1,h2,h3⟩
 ·exact Or.inl h
 ·exact Or.inr ⟨g,o,n,cp,cur,h1,(hw g cur (by rw [h1];rfl) h2).trans h2,h3⟩
theorem HoldsR.other {w w':World} {v:Value} {L:List ByteArray} (h:HoldsR w v L) (hw:∀ g cur,v.ownBlock=some g→w.heap[g]?=some (.cells cur 9)→w'.heap[g]?=w.heap[g]?):HoldsR w' v L:=⟨h.1.other hw,h.2.other hw⟩
theorem HoldsR.below {w w':World} {v:Value} {L:List ByteArray} (h:HoldsR w v L) (hb:Below w.heap.size w w'):HoldsR w' v L :=
 h.other fun g _ _ e=>hb.block g (Array.getElem?_eq_some_iff.1 e).1
theorem HoldsR.form {w:World} {v:Value} {L:List ByteArray} (h:HoldsR w v L):∃ ad cp,v=.slice ad L.length cp:=h.1.form
theorem holdsR_nil (w:World):HoldsR w (.slice none 0 0) []:=⟨holdsS_nil _ _ _,Or.inl rfl⟩
theorem HoldsR.own {w:World} {base:Nat} {v:Value} {L:List ByteArray} (h:w.ownsRow base 9 1 v L.length (scells L)):HoldsR w v L:=by
 refine ⟨(HoldsT.own h).s,?_⟩
 rcases h.2 with ⟨h1,_⟩ | ⟨g,cap,cur,h1,_,h3,h4,_,h6,_⟩
 ·exact Or.inl h1
 ·exact Or.inr ⟨g,0,L.length,cap,cur,h1,h3,h4,by omega⟩
def AnsW (w0:World) (o:LO) (e:Ending) (q:World):Prop :=
 ∃ v vf vg,e=.returned (.agg (loC o.p v vf vg o.cd))∧HoldsR q v o.Q∧HoldsN q vf o.sn∧HoldsS q vg o.gt∧(∀ g,v.ownBlock=some g→w0.heap.size≤g)∧(∀ g,vf.ownBlock=some g→w0.heap.size≤g)∧(∀ g,vg.ownBlock=some g→w0.heap.size≤g)∧Below w0.heap.size w0 q
theorem HoldsN.other {w w':World} {v:Value} {L:List Nb} (h:HoldsN w v L) (hw:∀ g cur,v.ownBlock=some g→w.heap[g]?=some (.cells cur 96)→w'.heap[g]?=w.heap[g]?):HoldsN w' v L:=by
 rcases h with ⟨ad,cp,h1,h2⟩ | ⟨g,cp,cur,h1,h2,h3⟩
 ·exact Or.inl ⟨ad,cp,h1,h2⟩
 ·exact Or.inr ⟨g,cp,cur,h1,(hw g cur (by rw [h1];rfl) h2).trans h2,h3⟩
set_option maxHeartbeats 4000000 in
theorem sCopyL (p:Lp) (x:Option Addr) (y:Nat) (L:List ByteArray) (w:World) (hl:L.length≤1048576) (h:HoldsS w (.slice x L.length y) L) :
  Calls Tryz.prog 70 #[.agg (lpC p (.slice x L.length y))] w fun e w'=>∃ ua uc,e=.returned (.agg (lpC p (.slice ua L.length uc)))∧w'.ownsRow w.heap.size 9 1 (.slice ua L.length uc) L.length (scells L)∧Below w.heap.size w w':=by
 obtain ⟨hN0,hN1,hN2,hbW,hsW⟩:=new3l w (.cells (lpC p (.slice x L.length y)) 54) (.cells #[.int .i64 0,.int .i64 0,.int .i64 0,.int .i64 0,.slice none 0 0,.bool false] 54) (.cells #[] 9)
 obtain ⟨wi,vs,va,vr,ak⟩:=p
 unfold lpC at hN0 hN1 hN2 hbW hsW ⊢
 dsimp only at *
 have hs3:=h.below hbW
 have hbw:=hbW.size
 have hown:World.ownsRow _ w.heap.size 9 1 (.slice (some ⟨w.heap.size+1+1,0,none⟩) 0 0) ([]:List ByteArray).length (scells []):=⟨rfl,Or.inr ⟨w.heap.size+1+1,0,#[],rfl,by omega,hN2,Nat.le_refl _,Nat.zero_le _,rfl,rfl⟩⟩
 generalize hn:L.length=n at *
 have H0:=hide (And.intro hN0 (And.intro hN1 (And.intro hbW (And.intro hsW (And.intro hs3 hown)))))
 clear hN0 hN1 hN2 hbW hsW hs3 h hown
 go_enter Tryz.func70,Tryz.ntmps70
 go_wp2_with (first
  | (at_builtin;refine append_ts rfl _ _ rfl w.heap.size _ _ [] L rfl rfl ?h1 ?h2 ?h3 ?h4 ?h5 ?h6))
 case h1=>exact (uh H0).2.2.2.2.2
 case h2=>exact (uh H0).2.2.2.2.1
 case h3=>simp
 case h4=>omega
 case h5 =>
  rw [(uh H0).2.2.2.1];omega
 rintro v4 w4 ho4 hg4
 obtain ⟨ua,uc,rfl⟩:=own_form ho4
 have hB4:Below w.heap.size w w4:=(uh H0).2.2.1.grown hg4 (by rw [(uh H0).2.2.2.1];omega) (fun k hk=>by have e':w.heap.size+1+1=k:=Option.some.inj hk;omega)
 have kg:=fun (k:Nat) (hk:k<w.heap.size+1+1)=>hg4.block k (by rw [(uh H0).2.2.2.1];omega) (fun e=>by have e':k=w.heap.size+1+1:=Option.some.inj e;omega)
 have k0:=(kg w.heap.size (by omega)).trans (uh H0).1
 have k1:=(kg (w.heap.size+1) (by omega)).trans (uh H0).2.1
 have hlo:=fun g hg=>(ho4.lt g hg).1
 have HX:=hide (And.intro ho4 (And.intro hB4 (And.intro k0 k1)))
 obtain ⟨a0,a1,a2,a3,a4,a5⟩:=row6l k0
 obtain ⟨r0,r1,r2,r3,r4,r5⟩:=row6l k1
 obtain ⟨f0,f1,f2,f3,f4,f5⟩:=frz6l k1
 have p4:=frz k0 4
 have n1:¬ (w.heap.size=w.heap.size+1):=by omega
 have n2:¬ (w.heap.size+1=w.heap.size):=by omega
 clear ho4 hg4 hB4 kg k0 k1 H0 hlo
 go_wp2
 obtain ⟨ho4,hB4,k0,k1⟩:=uh HX
 refine bodyPost_ret (v:=.agg #[.int .i64 wi,.int .i64 vs,.int .i64 va,.int .i64 vr,.slice ua n uc,.bool ak]) (by simp [results,Tryz.results70,asAddr,loadL (set6_lp ((heap_setCell_other w4 ⟨w.heap.size,4,none⟩ (w.heap.size+1) (.slice ua n uc) (by show w.heap.size+1≠w.heap.size;omega)).trans k1) (.int .i64 wi) (.int .i64 vs) (.int .i64 va) (.int .i64 vr) (.slice ua n uc) (.bool ak))]) rfl ?_
 refine ⟨ua,uc,rfl,own_at ho4 (fun g cur _ h2=>?_),set6_lb (hB4.setCell (p:=⟨w.heap.size,4,none⟩) (Nat.le_refl _) _) (by omega) _ _ _ _ _ _⟩
 have g0:g≠w.heap.size:=fun e=>by rw [e,k0] at h2;cases h2
 have g1:g≠w.heap.size+1:=fun e=>by rw [e,k1] at h2;cases h2
 have f:∀ (V:World) (i:Nat) (x:Value),(V.setCell ⟨w.heap.size+1,i,none⟩ x).heap[g]?=V.heap[g]?:=fun V i x=>heap_setCell_other _ _ _ _ g1
 rw [f,f,f,f,f,f]
 exact heap_setCell_other _ _ _ _ g0
theorem AnsW.put {w q:World} {o:LO} {v vf vg:Value} {R:Nat} {cs:Array Value}
  (h1:HoldsR q v o.Q) (h2:HoldsN q vf o.sn) (h3:HoldsS q vg o.gt) (l1:∀ g,v.ownBlock=some g→w.heap.size≤g) (l2:∀ g,vf.ownBlock=some g→w.heap.size≤g) (l3:∀ g,vg.ownBlock=some g→w.heap.size≤g)
  (hb:Below w.heap.size w q) (hR:q.heap[R]?=some (.cells cs 79)) (hRw:w.heap.size≤R) (x0 x1 x2 x3 x4 x5 x6 x7 x8:Value) :
  AnsW w o (.returned (.agg (loC o.p v vf vg o.cd))) (((((((((q.setCell ⟨R,0,none⟩ x0).setCell ⟨R,1,none⟩ x1).setCell ⟨R,2,none⟩ x2).setCell ⟨R,3,none⟩ x3).setCell ⟨R,4,none⟩ x4).setCell ⟨R,5,none⟩ x5).setCell ⟨R,6,none⟩ x6).setCell ⟨R,7,none⟩ x7).setCell ⟨R,8,none⟩ x8):=by
 refine ⟨v,vf,vg,rfl,h1.other (fun g cur _ e=>set9_ot ?_ _ _ _ _ _ _ _ _ _),h2.other (fun g cur _ e=>set9_ot ?_ _ _ _ _ _ _ _ _ _),h3.other (fun g cur _ e=>set9_ot ?_ _ _ _ _ _ _ _ _ _),l1,l2,l3,set9_bl hb hRw _ _ _ _ _ _ _ _ _⟩
 all_goals
  intro e0
  rw [e0,hR] at e
  cases e
set_option maxHeartbeats 8000000 in
theorem sAgain (p:Lp) (x:Option Addr) (y:Nat) (L:List ByteArray) (w:World) (hl:L.length≤1048576) (h:HoldsS w (.slice x L.length y) L) :
  Calls Tryz.prog 54 #[.agg (lpC p (.slice x L.length y))] w fun e q=>AnsW w (againF p L) e q:=by
 have C1:=hide fun W (hb:Below w.heap.size w W)=>sLpRight p x y L W hl (h.below hb)
 have C2:=hide fun W (hb:Below w.heap.size w W)=>sCopyL p x y L W hl (h.below hb)
 obtain ⟨hN0,hN1,hbW,hsW⟩:=new2l w (.cells (lpC p (.slice x L.length y)) 54) (.cells #[.int .i64 0,.int .i64 0,.int .i64 0,.int .i64 0,.slice none 0 0,.bool false,.slice none 0 0,.slice none 0 0,.int .i64 0] 79)
 unfold againF
 clear h
 cases hk:lpOk p L
 ·rw [if_neg (by decide)]
  rw [hk] at C1
  obtain ⟨wi,vs,va,vr,ak⟩:=p
  unfold lpC at hN0 hN1 hbW hsW C1 ⊢
  dsimp only at *
  have H0:=hide (And.intro hN1 hbW)
  clear hN0 hN1 hbW hsW hk C2
  generalize L.length=n at *
  go_enter Tryz.func54,Tryz.ntmps54
  go_wp2_with fail
  refine (uh C1 _ (uh H0).2).mono ?_
  rintro e w1 ⟨rfl,hb1⟩
  have k0:=(hb1.block (w.heap.size+1) (Array.getElem?_eq_some_iff.1 (uh H0).1).1).trans (uh H0).1
  have hB1:=(uh H0).2.trans (hb1.mono (uh H0).2.size)
  obtain ⟨r0,r1,r2,r3,r4,r5,r6,r7,r8⟩:=row9l k0
  obtain ⟨f0,f1,f2,f3,f4,f5,f6,f7,f8⟩:=frz9l k0
  have HX:=hide (And.intro k0 hB1)
  clear k0 hB1 hb1 H0 C1
  go_wp2
  obtain ⟨k0,hB1⟩:=uh HX
  refine bodyPost_ret (v:=.agg (loC lpZero (.slice none 0 0) (.slice none 0 0) (.slice none 0 0) 1)) (by simp [results,Tryz.results54,asAddr,loC,lpZero,loadLo (set9_lo k0 _ _ _ _ _ _ _ _ _)]) rfl ?_
  exact AnsW.put (o:=loErr 1) (holdsR_nil _) (holdsN_nil _ _ _) (holdsS_nil _ _ _) (fun g hg=>by cases hg) (fun g hg=>by cases hg) (fun g hg=>by cases hg) hB1 k0 (by omega) _ _ _ _ _ _ _ _ _
 ·rw [if_pos rfl]
  rw [hk] at C1
  obtain ⟨wi,vs,va,vr,ak⟩:=p
  unfold lpC at hN0 hN1 hbW hsW C1 C2 ⊢
  dsimp only at *
  have H0:=hide (And.intro hN0 (And.intro hN1 (And.intro hbW hsW)))
  clear hN0 hN1 hbW hsW hk
  generalize hn:L.length=n at *
  go_enter Tryz.func54,Tryz.ntmps54
  go_wp2_with fail
  refine (uh C1 _ (uh H0).2.2.1).mono ?_
  rintro e w1 ⟨rfl,hb1⟩
  have k0:=(hb1.block w.heap.size (Array.getElem?_eq_some_iff.1 (uh H0).1).1).trans (uh H0).1
  have k1:=(hb1.block (w.heap.size+1) (Array.getElem?_eq_some_iff.1 (uh H0).2.1).1).trans (uh H0).2.1
  have hbW:=(uh H0).2.2.1.trans (hb1.mono (uh H0).2.2.1.size)
  obtain ⟨a0,a1,a2,a3,a4,a5⟩:=row6l k0
  have H1:=hide (And.intro k0 (And.intro k1 hbW))
  clear k0 k1 hbW hb1 H0 C1
  go_wp2_with fail
  refine (uh C2 _ (uh H1).2.2).mono ?_
  rintro e w2 ⟨ua,uc,rfl,ho,hb2⟩
  have k0:=(hb2.block w.heap.size (Array.getElem?_eq_some_iff.1 (uh H1).1).1).trans (uh H1).1
  have k1:=(hb2.block (w.heap.size+1) (Array.getElem?_eq_some_iff.1 (uh H1).2.1).1).trans (uh H1).2.1
  have hbW:=(uh H1).2.2.trans (hb2.mono (uh H1).2.2.size)
  have hl0:w.heap.size<w2.heap.size:=(Array.getElem?_eq_some_iff.1 k0).1
  have hl1:w.heap.size+1<w2.heap.size:=(Array.getElem?_eq_some_iff.1 k1).1
  have hlo:∀ g,(Value.slice ua n uc).ownBlock=some g→w.heap.size≤g:=fun g hg=>by have:=(ho.lt g hg).1;have:=(uh H1).2.2.size;omega
  have hS:HoldsR w2 (.slice ua n uc) L:=by
   have:=HoldsR.own (L:=L) (by rw [hn];exact ho)
   exact this
  clear a0 a1 a2 a3 a4 a5
  obtain ⟨a0,a1,a2,a3,a4,a5⟩:=row6l k0
  obtain ⟨r0,r1,r2,r3,r4,r5,r6,r7,r8⟩:=row9l k1
  obtain ⟨f0,f1,f2,f3,f4,f5,f6,f7,f8⟩:=frz9l k1
  have n1:¬ (w.heap.size=w2.heap.size):=by omega
  have n2:¬ (w.heap.size+1=w2.heap.size):=by omega
  have n3:¬ (w2.heap.size=w.heap.size):=by omega
  have n4:¬ (w2.heap.size=w.heap.size+1):=by omega
  have kN:=heap_alloc_new w2 (.cells #[.int .i64 wi,.int .i64 vs,.int .i64 va,.int .i64 vr,.slice ua n uc,.bool ak] 54)
  have hbN:Below w2.heap.size w2 (w2.alloc (.cells #[.int .i64 wi,.int .i64 vs,.int .i64 va,.int .i64 vr,.slice ua n uc,.bool ak] 54)):=(Below.refl _ _).alloc (Nat.le_refl _) _
  have HX:=hide (And.intro hlo (And.intro (hS.below hbN) (And.intro ((hbN.block _ hl1).trans k1) (And.intro (hbW.trans (hbN.mono hbW.size)) (And.intro kN ((hbN.block _ hl0).trans k0))))))
  clear k0 k1 hbW ho hb2 H1 C2 hS hlo kN hbN
  go_upto_region 4 with fail
  refine gen_world (fun q=>HoldsR q (.slice ua n uc) L∧q.heap[w.heap.size+1]?=some (.cells #[.int .i64 0,.int .i64 0,.int .i64 0,.int .i64 0,.slice none 0 0,.bool false,.slice none 0 0,.slice none 0 0,.int .i64 0] 79)∧Below w.heap.size w q∧q.heap[w2.heap.size]?=some (.cells #[.int .i64 wi,.int .i64 vs,.int .i64 va,.int .i64 vr,.slice ua n uc,.bool ak] 54)∧q.heap[w.heap.size]?=some (.cells #[.int .i64 wi,.int .i64 vs,.int .i64 va,.int .i64 vr,.slice x n y,.bool ak] 54)) (uh HX).2 ?_
  clear a0 a1 a2 a3 a4 a5 r0 r1 r2 r3 r4 r5 r6 r7 r8 f0 f1 f2 f3 f4 f5 f6 f7 f8
  rintro q ⟨q1,q2,q3,q4,q5⟩
  obtain ⟨a0,a1,a2,a3,a4,a5⟩:=row6l q5
  obtain ⟨c0,c1,c2,c3,c4,c5⟩:=row6l q4
  have p1:=frz q4 1
  have HY:=hide (And.intro (uh HX).1 (And.intro (q1.other (w':=q.setCell ⟨w2.heap.size,1,none⟩ (.int .i64 va)) (fun g cur _ e=>heap_setCell_other _ _ _ _ (fun e0=>by rw [e0] at e;have e:=e.symm.trans q4;cases e))) (And.intro ((heap_setCell_other q ⟨w2.heap.size,1,none⟩ (w.heap.size+1) (.int .i64 va) n2).trans q2) (And.intro (q3.setCell (p:=⟨w2.heap.size,1,none⟩) (Nat.le_of_lt hl0) (.int .i64 va)) (heap_setCell_same _ _ 1 _ _ (.int .i64 va) q4)))))
  clear q1 q2 q3 q4 q5 HX
  go_upto_region 5 with fail
  refine gen_world (fun q=>HoldsR q (.slice ua n uc) L∧q.heap[w.heap.size+1]?=some (.cells #[.int .i64 0,.int .i64 0,.int .i64 0,.int .i64 0,.slice none 0 0,.bool false,.slice none 0 0,.slice none 0 0,.int .i64 0] 79)∧Below w.heap.size w q∧q.heap[w2.heap.size]?=some (.cells #[.int .i64 wi,.int .i64 va,.int .i64 va,.int .i64 vr,.slice ua n uc,.bool ak] 54)) (uh HY).2 ?_
  clear a0 a1 a2 a3 a4 a5 c0 c1 c2 c3 c4 c5 p1
  rintro q' ⟨q1,q2,q3,q4⟩
  obtain ⟨c0,c1,c2,c3,c4,c5⟩:=row6l q4
  obtain ⟨r0,r1,r2,r3,r4,r5,r6,r7,r8⟩:=row9l q2
  obtain ⟨f0,f1,f2,f3,f4,f5,f6,f7,f8⟩:=frz9l q2
  have HZ:=hide (And.intro (uh HY).1 (And.intro q1 (And.intro q2 q3)))
  clear q1 q2 q3 q4 HY
  go_wp2_with fail
  obtain ⟨hlo,q1,q2,q3⟩:=uh HZ
  refine bodyPost_ret (v:=.agg (loC ⟨wi,va,va,vr,ak⟩ (.slice ua n uc) (.slice none 0 0) (.slice none 0 0) 0)) (by simp [results,Tryz.results54,asAddr,loC,loadLo (set9_lo q2 _ _ _ _ _ _ _ _ _)]) rfl ?_
  exact AnsW.put (o:=⟨⟨wi,va,va,vr,ak⟩,L,[],[],0⟩) q1 (holdsN_nil _ _ _) (holdsS_nil _ _ _) hlo (fun g hg=>by cases hg) (fun g hg=>by cases hg) q3 q2 (by omega) _ _ _ _ _ _ _ _ _
end Go.Proofs.YtkcghhkkepndnaaGreatDoor
