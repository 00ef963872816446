/- Deframe, the program's and the model's, of any Deframer and text: one answer; what lay in memory stands; the program's under the library's two tables as they are laid. Two ends of a numbered line, and the frames between them: what becomes of them; short frames stay short, right ends right. Plain mathematics. One end of a numbered line in memory, with its line and what it has got; what stands while it is worked on; no condition but those named. The program: an end of a numbered line becomes what is answered, if no code is told; a numbered frame is made a sent frame; what lay in memory stands but for the end. -/
import Derived.Test.YtkcghhkkepndnaaGreatDoorS20
import Derived.Test.YtkcghhkkepndnaaGreatDoorS08
import Derived.Test.YtkcghhkkepndnaaGreatDoorS06
import Derived.Test.YtkcghhkkepndnaaGreatDoorS27
import Derived.Test.YtkcghhkkepndnaaGreatDoorS25
import Derived.Test.YtkcghhkkepndnaaGreatDoorS26
import Derived.Test.YtkcghhkkepndnaaGreatDoorS17
import Derived.Test.YtkcghhkkepndnaaGreatDoorS15
import Derived.Test.YtkcghhkkepndnaaGreatDoorS16
import Derived.Test.YtkcghhkkepndnaaGreatDoorS01
import Derived.Test.YtkcghhkkepndnaaGreatDoorS11
import Derived.Great.Walk
import Derived.Test.YtkcghhkkepndnaaGreatDoorShW
namespace Go.Proofs.YtkcghhkkepndnaaGreatDoor
open Go.RowKit
structure Ans where
 wide:Bool
 x:Int
 inn:Bool
 esc:Bool
 long:Bool
 text:ByteArray
 F:List Hd.Fd
 code:Int
def ansV (A:Ans) (v:Value):Value:=.agg #[.bool A.wide,.int .i64 A.x,.bool A.inn,.bool A.esc,.bool A.long,.string A.text,v,.int .i64 A.code]
def ansOf (wide:Bool) (x:Int) (inn esc long:Bool) (u t:ByteArray):Ans :=
 if t.size≤8000 then
  if rightV x inn esc long u=true then
   ⟨wide,x,(Hd.run x.toNat ⟨inn,esc,long,u.data.toList⟩ t.data.toList).inn,(Hd.run x.toNat ⟨inn,esc,long,u.data.toList⟩ t.data.toList).esc,(Hd.run x.toNat ⟨inn,esc,long,u.data.toList⟩ t.data.toList).long,txt (Hd.run x.toNat ⟨inn,esc,long,u.data.toList⟩ t.data.toList).held,(Hd.finds (gd wide) x.toNat ⟨inn,esc,long,u.data.toList⟩ t.data.toList).take 400,0⟩
  else ⟨false,0,false,false,false,⟨#[]⟩,[],1⟩
 else ⟨false,0,false,false,false,⟨#[]⟩,[],2⟩
theorem right_get {x:Int} {inn esc long:Bool} {u:ByteArray} (h:rightV x inn esc long u=true):(∃ a:Nat,x=a∧a<4294967296)∧u.size≤304:=by
 unfold rightV at h
 rw [Bool.and_eq_true,Bool.and_eq_true] at h
 exact ⟨accOk_get h.1,of_decide_eq_true h.2.1⟩
theorem ans_of_own {w w':World} {v:Value} {F:List Hd.Fd} (h:w'.ownsRow w.heap.size 113 2 v F.length (fcells F)):HoldsF w' v F∧∀ g,v.ownBlock=some g→w.heap.size≤g :=
 ⟨HoldsF.own h,fun g hg=>(World.ownsRow.lt h g hg).1⟩
set_option maxHeartbeats 1000000 in
theorem implDefr_long (wide:Bool) (x:Int) (inn esc long:Bool) (u t:ByteArray) (w:World) (ht:t.size≤maxLen) (h8:¬ t.size≤8000) :
  Calls Tryz.prog 93 #[.agg #[.bool wide,.int .i64 x,.bool inn,.bool esc,.bool long,.string u],.string t] w fun e w'=>e=.returned (ansV ⟨false,0,false,false,false,⟨#[]⟩,[],2⟩ (.slice none 0 0))∧Below w.heap.size w w':=by
 unfold maxLen at ht
 have d0:(8000:Int)<(t.size:Int):=by omega
 go_enter Tryz.func93,Tryz.ntmps93
 go_wp2
 refine bodyPost_ret (v:=ansV ⟨false,0,false,false,false,⟨#[]⟩,[],2⟩ (.slice none 0 0)) (by simp [results,Tryz.results93,go_sem,ansV]) rfl ⟨rfl,?_⟩
 exact ((Below.refl _ _).alloc (Nat.le_refl _) _).alloc (by simp) _
set_option maxHeartbeats 1000000 in
theorem implDefr_wrong (wide:Bool) (x:Int) (inn esc long:Bool) (u t:ByteArray) (w:World) (hu:u.size≤maxLen) (h8:t.size≤8000) (hr:rightV x inn esc long u=false) :
  Calls Tryz.prog 93 #[.agg #[.bool wide,.int .i64 x,.bool inn,.bool esc,.bool long,.string u],.string t] w fun e w'=>e=.returned (ansV ⟨false,0,false,false,false,⟨#[]⟩,[],1⟩ (.slice none 0 0))∧Below w.heap.size w w':=by
 have d0:¬ ((8000:Int)<(t.size:Int)):=by omega
 have C1:=hide fun v=>implRight wide x inn esc long u v hu
 rw [hr] at C1
 go_enter Tryz.func93,Tryz.ntmps93
 go_wp2_with fail
 refine (uh C1 _).mono ?_
 rintro e w1 ⟨rfl,hb1⟩
 have hsz0:((w.alloc (.cells #[.bool wide,.int .i64 x,.bool inn,.bool esc,.bool long,.string u] 59)).alloc (.cells #[.bool false,.int .i64 0,.bool false,.bool false,.bool false,.string ⟨#[]⟩,.slice none 0 0,.int .i64 0] 121)).heap.size=w.heap.size+2:=by simp
 have hO1:w1.heap[w.heap.size+1]?=some (.cells #[.bool false,.int .i64 0,.bool false,.bool false,.bool false,.string ⟨#[]⟩,.slice none 0 0,.int .i64 0] 121):=by
  rw [hb1.block (w.heap.size+1) (by rw [hsz0];omega)]
  have h:=heap_alloc_last (w.alloc (.cells #[.bool wide,.int .i64 x,.bool inn,.bool esc,.bool long,.string u] 59)) (.cells #[.bool false,.int .i64 0,.bool false,.bool false,.bool false,.string ⟨#[]⟩,.slice none 0 0,.int .i64 0] 121)
  rw [show (w.alloc (.cells #[.bool wide,.int .i64 x,.bool inn,.bool esc,.bool long,.string u] 59)).heap.size=w.heap.size+1 by simp] at h
  exact h
 have hB1:Below w.heap.size w w1:=(((Below.refl _ _).alloc (Nat.le_refl _) _).alloc (by simp) _).trans (hb1.mono (by rw [hsz0];omega))
 obtain ⟨o0,o1,o2,o3,o4,o5,o6,o7,q0,q1,q2,q3,q4,q5,q6,q7⟩:=row8s hO1
 have HL:=hide (put8_load hO1)
 have HBB:=hide (put8_below (B:=w.heap.size+1) hB1 (show w.heap.size≤w.heap.size+1 by omega))
 clear hO1 hB1 hb1 hsz0
 go_wp2
 refine bodyPost_ret (v:=ansV ⟨false,0,false,false,false,⟨#[]⟩,[],1⟩ (.slice none 0 0)) ?_ rfl ⟨rfl,?_⟩
 ·have hld:=uh HL (.bool false) (.int .i64 0) (.bool false) (.bool false) (.bool false) (.string ⟨#[]⟩) (.slice none 0 0) (.int .i64 1)
  rw [results_cell rfl]
  simp [asAddr,Result.andThen,hld,ansV]
 ·exact uh HBB _ _ _ _ _ _ _ _
set_option maxHeartbeats 1000000 in
theorem specDefr_long (wide:Bool) (x:Int) (inn esc long:Bool) (u t:ByteArray) (w:World) (ht:t.size≤maxLen) (h8:¬ t.size≤8000) :
  Calls Tryz.prog 75 #[.agg #[.bool wide,.int .i64 x,.bool inn,.bool esc,.bool long,.string u],.string t] w fun e w'=>e=.returned (ansV ⟨false,0,false,false,false,⟨#[]⟩,[],2⟩ (.slice none 0 0))∧Below w.heap.size w w':=by
 unfold maxLen at ht
 have d0:(8000:Int)<(t.size:Int):=by omega
 go_enter Tryz.func75,Tryz.ntmps75
 go_wp2
 refine bodyPost_ret (v:=ansV ⟨false,0,false,false,false,⟨#[]⟩,[],2⟩ (.slice none 0 0)) (by simp [results,Tryz.results75,go_sem,ansV]) rfl ⟨rfl,?_⟩
 exact ((Below.refl _ _).alloc (Nat.le_refl _) _).alloc (by simp) _
set_option maxHeartbeats 1000000 in
theorem specDefr_wrong (wide:Bool) (x:Int) (inn esc long:Bool) (u t:ByteArray) (w:World) (hu:u.size≤maxLen) (h8:t.size≤8000) (hr:rightV x inn esc long u=false) :
  Calls Tryz.prog 75 #[.agg #[.bool wide,.int .i64 x,.bool inn,.bool esc,.bool long,.string u],.string t] w fun e w'=>e=.returned (ansV ⟨false,0,false,false,false,⟨#[]⟩,[],1⟩ (.slice none 0 0))∧Below w.heap.size w w':=by
 have d0:¬ ((8000:Int)<(t.size:Int)):=by omega
 have C1:=hide fun v=>specRight wide x inn esc long u v hu
 rw [hr] at C1
 go_enter Tryz.func75,Tryz.ntmps75
 go_wp2_with fail
 refine (uh C1 _).mono ?_
 rintro e w1 ⟨rfl,hb1⟩
 have hsz0:((w.alloc (.cells #[.bool wide,.int .i64 x,.bool inn,.bool esc,.bool long,.string u] 59)).alloc (.cells #[.bool false,.int .i64 0,.bool false,.bool false,.bool false,.string ⟨#[]⟩,.slice none 0 0,.int .i64 0] 121)).heap.size=w.heap.size+2:=by simp
 have hO1:w1.heap[w.heap.size+1]?=some (.cells #[.bool false,.int .i64 0,.bool false,.bool false,.bool false,.string ⟨#[]⟩,.slice none 0 0,.int .i64 0] 121):=by
  rw [hb1.block (w.heap.size+1) (by rw [hsz0];omega)]
  have h:=heap_alloc_last (w.alloc (.cells #[.bool wide,.int .i64 x,.bool inn,.bool esc,.bool long,.string u] 59)) (.cells #[.bool false,.int .i64 0,.bool false,.bool false,.bool false,.string ⟨#[]⟩,.slice none 0 0,.int .i64 0] 121)
  rw [show (w.alloc (.cells #[.bool wide,.int .i64 x,.bool inn,.bool esc,.bool long,.string u] 59)).heap.size=w.heap.size+1 by simp] at h
  exact h
 have hB1:Below w.heap.size w w1:=(((Below.refl _ _).alloc (Nat.le_refl _) _).alloc (by simp) _).trans (hb1.mono (by rw [hsz0];omega))
 obtain ⟨o0,o1,o2,o3,o4,o5,o6,o7,q0,q1,q2,q3,q4,q5,q6,q7⟩:=row8s hO1
 have HL:=hide (put8_load hO1)
 have HBB:=hide (put8_below (B:=w.heap.size+1) hB1 (show w.heap.size≤w.heap.size+1 by omega))
 clear hO1 hB1 hb1 hsz0
 go_wp2
 refine bodyPost_ret (v:=ansV ⟨false,0,false,false,false,⟨#[]⟩,[],1⟩ (.slice none 0 0)) ?_ rfl ⟨rfl,?_⟩
 ·have hld:=uh HL (.bool false) (.int .i64 0) (.bool false) (.bool false) (.bool false) (.string ⟨#[]⟩) (.slice none 0 0) (.int .i64 1)
  rw [results_cell rfl]
  simp [asAddr,Result.andThen,hld,ansV]
 ·exact uh HBB _ _ _ _ _ _ _ _
theorem holds_nil (w:World) (ad:Option Addr) (cp:Nat):HoldsF w (.slice ad 0 cp) []:=Or.inl ⟨_,_,rfl,rfl⟩
theorem implDefrAll (wide:Bool) (x:Int) (inn esc long:Bool) (u t:ByteArray) (w:World) (hu:u.size≤maxLen) (ht:t.size≤maxLen) (hT:Lib.Utf8Tabs 0 1 w) :
  Calls Tryz.prog 93 #[.agg #[.bool wide,.int .i64 x,.bool inn,.bool esc,.bool long,.string u],.string t] w fun e w'=>∃ v,e=.returned (ansV (ansOf wide x inn esc long u t) v)∧(HoldsF w' v (ansOf wide x inn esc long u t).F∧∀ g,v.ownBlock=some g→w.heap.size≤g)∧Below w.heap.size w w':=by
 by_cases h8:t.size≤8000
 ·cases hr:rightV x inn esc long u
  ·rw [show ansOf wide x inn esc long u t=_ from (if_pos h8).trans (if_neg (by rw [hr];decide))]
   exact (implDefr_wrong wide x inn esc long u t w hu h8 hr).mono fun e w' ⟨p1,p2⟩=>⟨_,p1,⟨holds_nil _ _ _,fun g hg=>by cases hg⟩,p2⟩
  ·obtain ⟨⟨a,rfl,ha⟩,hu4⟩:=right_get hr
   rw [show ansOf wide a inn esc long u t=_ from (if_pos h8).trans (if_pos hr),Int.toNat_natCast]
   exact (implDeframe_at wide a inn esc long u t w ha h8 hu4 hr hT).mono fun e w' ⟨v,p1,p2,p3⟩=>⟨v,p1,ans_of_own p2,p3⟩
 ·rw [show ansOf wide x inn esc long u t=_ from if_neg h8]
  exact (implDefr_long wide x inn esc long u t w ht h8).mono fun e w' ⟨p1,p2⟩=>⟨_,p1,⟨holds_nil _ _ _,fun g hg=>by cases hg⟩,p2⟩
theorem specDefrAll (wide:Bool) (x:Int) (inn esc long:Bool) (u t:ByteArray) (w:World) (hu:u.size≤maxLen) (ht:t.size≤maxLen) :
  Calls Tryz.prog 75 #[.agg #[.bool wide,.int .i64 x,.bool inn,.bool esc,.bool long,.string u],.string t] w fun e w'=>∃ v,e=.returned (ansV (ansOf wide x inn esc long u t) v)∧(HoldsF w' v (ansOf wide x inn esc long u t).F∧∀ g,v.ownBlock=some g→w.heap.size≤g)∧Below w.heap.size w w':=by
 by_cases h8:t.size≤8000
 ·cases hr:rightV x inn esc long u
  ·rw [show ansOf wide x inn esc long u t=_ from (if_pos h8).trans (if_neg (by rw [hr];decide))]
   exact (specDefr_wrong wide x inn esc long u t w hu h8 hr).mono fun e w' ⟨p1,p2⟩=>⟨_,p1,⟨holds_nil _ _ _,fun g hg=>by cases hg⟩,p2⟩
  ·obtain ⟨⟨a,rfl,ha⟩,hu4⟩:=right_get hr
   rw [show ansOf wide a inn esc long u t=_ from (if_pos h8).trans (if_pos hr),Int.toNat_natCast]
   exact (specDeframe_at wide a inn esc long u t w ha h8 hu4 hr).mono fun e w' ⟨v,p1,p2,p3⟩=>⟨v,p1,ans_of_own p2,p3⟩
 ·rw [show ansOf wide x inn esc long u t=_ from if_neg h8]
  exact (specDefr_long wide x inn esc long u t w ht h8).mono fun e w' ⟨p1,p2⟩=>⟨_,p1,⟨holds_nil _ _ _,fun g hg=>by cases hg⟩,p2⟩
structure Dm where
 wd:Bool
 x:Int
 inn:Bool
 esc:Bool
 long:Bool
 tx:ByteArray
structure Nl where
 p:Lp
 Q:List ByteArray
 ln:List Sf
 df:Dm
 gt:List ByteArray
structure Nw where
 a:Nl
 b:Nl
 bad:Int
 un:Int
def frameOfF (f:Nb):Sf:=⟨packV 33 (nbTold f) true true,frameV (packV 33 (nbTold f) true true) 0 false⟩
def followN (s:Nl) (o:LO):Nl:=if o.cd=0 then ⟨o.p,o.Q,(s.ln ++ o.sn.map frameOfF).take 40,s.df,s.gt ++ o.gt⟩ else s
def ansD (d:Dm) (t:ByteArray):Ans:=ansOf d.wd d.x d.inn d.esc d.long d.tx t
def dmOf (A:Ans):Dm:=⟨A.wide,A.x,A.inn,A.esc,A.long,A.text⟩
def hearN (s:Nl) (t:ByteArray):Nl:=if (Pp.unpack t.data.toList).proto=33 then followN s (hearLF s.p s.Q (nbRead (txt (Pp.unpack t.data.toList).text))) else s
structure Tk where
 s:Nl
 bad:Int
 un:Int
 good:Nat
def take1 (tx:ByteArray) (x:Tk) (d:Hd.Fd):Tk :=
 if d.kind=1 then ⟨hearN x.s (txt d.text),x.bad,if 0<x.good∨txt d.text≠tx then x.un+1 else x.un,x.good+1⟩ else ⟨x.s,x.bad+1,x.un,x.good⟩
def dfN (s:Nl) (t:ByteArray):Nl:=⟨s.p,s.Q,s.ln,dmOf (ansD s.df t),s.gt⟩
def tookN (f:Sf) (s:Nl) (bad un:Int):Tk:=(ansD s.df f.bytes).F.foldl (take1 f.text) ⟨dfN s f.bytes,bad,un,0⟩
def lnN (s:Nl) (l:List Sf):Nl:=⟨s.p,s.Q,l,s.df,s.gt⟩
def cmB (w:Nw):Nw:=match w.a.ln with
 | []=>w
 | f :: r=>⟨lnN w.a r,(tookN f w.b w.bad w.un).s,(tookN f w.b w.bad w.un).bad,(tookN f w.b w.bad w.un).un⟩
def cmA (w:Nw):Nw:=match w.b.ln with
 | []=>w
 | f :: r=>⟨(tookN f w.a w.bad w.un).s,lnN w.b r,(tookN f w.a w.bad w.un).bad,(tookN f w.a w.bad w.un).un⟩
def spoilN (w:Nw) (n:Int):Nw:=match w.a.ln with
 | []=>w
 | f :: r=>⟨lnN w.a (⟨f.text,turnV f.bytes n.toNat⟩ :: r),w.b,w.bad,w.un⟩
def sendNextN (w:Nw):Nw:=⟨followN w.a (nextF w.a.p w.a.Q),w.b,w.bad,w.un⟩
def sendAgainN (w:Nw):Nw:=⟨followN w.a (againF w.a.p w.a.Q),w.b,w.bad,w.un⟩
def evN (w:Nw) (e:Int):Nw :=
 if e<0 then w
 else if e % 8=0 then sendNextN w
 else if e % 8=1 then cmB w
 else if e % 8=2 then ⟨lnN w.a w.a.ln.tail,w.b,w.bad,w.un⟩
 else if e % 8=3 then ⟨lnN w.a (dbl w.a.ln),w.b,w.bad,w.un⟩
 else if e % 8=4 then spoilN w (e / 8)
 else if e % 8=5 then cmA w
 else if e % 8=6 then ⟨w.a,lnN w.b w.b.ln.tail,w.bad,w.un⟩
 else sendAgainN w
def timesN {α:Type} (f:α→α):Nat→α→α
 | 0,x=>x
 | n+1,x=>f (timesN f n x)
def setN1 (w:Nw):Nw :=
 let u:=sendNextN w
 let v:=timesN cmB u.a.ln.length u
 sendAgainN (timesN cmA v.b.ln.length v)
def dm0:Dm:=⟨false,0,false,false,false,⟨#[]⟩⟩
def nl0 (wi:Int) (Q:List ByteArray):Nl:=⟨lpNew wi,Q,[],dm0,[]⟩
def lineN (T:List ByteArray) (wi:Int) (L:List Int) (st:Bool):Nw :=
 let u:=L.foldl evN ⟨nl0 wi T,nl0 wi [],0,0⟩
 if st=true then timesN setN1 100 u else u
structure SfOk (f:Sf):Prop where
 t:f.text.size≤300
 b:1≤f.bytes.size
 c:f.bytes.size≤411
theorem told_sz9 (f:Nb):(nbTold f).size≤201:=by
 cases h:nbOk f
 ·rw [told_no h];decide
 ·rw [told_yes h,ByteArray.size_append]
  have h':=of_decide_eq_true h
  have e:(txt [nbByte f]).size=1:=rfl
  have:=h'.2
  omega
theorem packV_33 (t:ByteArray) (h:t.size≤7000):packV 33 t true true=txt [33] ++ t:=packV_yes (k:=33) (a:=true) (p:=true) (by omega) (by decide) (by
 have e:(Pp.head 33 true true).length=1:=by decide
 rw [e]
 omega)
theorem frameOf_ok (f:Nb):SfOk (frameOfF f):=by
 have h:=told_sz9 f
 have e:packV 33 (nbTold f) true true=txt [33] ++ nbTold f:=packV_33 _ (by omega)
 have es:(packV 33 (nbTold f) true true).size=1+(nbTold f).size:=by
  rw [e,ByteArray.size_append]
  rfl
 have ef:(frameOfF f).bytes=⟨#[126]⟩ ++ txt (Hd.stuff (0:Int).toNat (packV 33 (nbTold f) true true ++ tailB (packV 33 (nbTold f) true true).data.toList false).data.toList) ++ ⟨#[126]⟩:=if_pos ⟨by omega,by omega,by decide⟩
 have e1:(⟨#[126]⟩:ByteArray).size=1:=rfl
 have e2:=stuff_sz (0:Int).toNat (packV 33 (nbTold f) true true ++ tailB (packV 33 (nbTold f) true true).data.toList false)
 have e3:(packV 33 (nbTold f) true true ++ tailB (packV 33 (nbTold f) true true).data.toList false).size=1+(nbTold f).size+2:=by
  rw [ByteArray.size_append,es,tailB_size]
  rfl
 have e4:(frameOfF f).bytes.size=1+(txt (Hd.stuff (0:Int).toNat (packV 33 (nbTold f) true true ++ tailB (packV 33 (nbTold f) true true).data.toList false).data.toList)).size+1:=by
  rw [ef,ByteArray.size_append,ByteArray.size_append,e1]
 exact ⟨by show (packV 33 (nbTold f) true true).size≤300;omega,by omega,by omega⟩
def DmOk (d:Dm):Prop:=rightV d.x d.inn d.esc d.long d.tx=true
theorem ansD_ok {d:Dm} (h:DmOk d) {t:ByteArray} (ht:t.size≤8000):DmOk (dmOf (ansD d t)):=by
 have e:ansD d t=⟨d.wd,d.x,(Hd.run d.x.toNat ⟨d.inn,d.esc,d.long,d.tx.data.toList⟩ t.data.toList).inn,(Hd.run d.x.toNat ⟨d.inn,d.esc,d.long,d.tx.data.toList⟩ t.data.toList).esc,(Hd.run d.x.toNat ⟨d.inn,d.esc,d.long,d.tx.data.toList⟩ t.data.toList).long,txt (Hd.run d.x.toNat ⟨d.inn,d.esc,d.long,d.tx.data.toList⟩ t.data.toList).held,(Hd.finds (gd d.wd) d.x.toNat ⟨d.inn,d.esc,d.long,d.tx.data.toList⟩ t.data.toList).take 400,0⟩:=(if_pos ht).trans (if_pos h)
 rw [e]
 unfold DmOk rightV at h
 simp only [Bool.and_eq_true,decide_eq_true_eq,Bool.or_eq_true,Bool.not_eq_true'] at h
 obtain ⟨h1,h2,h3⟩:=h
 have hr:Hd.Right ⟨d.inn,d.esc,d.long,d.tx.data.toList⟩:=by
  refine ⟨by show d.tx.data.toList.length≤304;rw [Array.length_toList];exact h2,fun hi=>?_⟩
  rcases h3 with h3 | ⟨h3,h4,h5⟩
  ·rw [show d.inn=false from hi] at h3
   cases h3
  ·refine ⟨h3,h4,List.eq_nil_of_length_eq_zero ?_⟩
   show d.tx.data.toList.length=0
   rw [Array.length_toList]
   exact h5
 obtain ⟨r1,r2⟩:=Hd.run_right d.x.toNat t.data.toList _ hr
 show rightV d.x _ _ _ (txt _)=true
 unfold rightV
 simp only [Bool.and_eq_true,decide_eq_true_eq,Bool.or_eq_true,Bool.not_eq_true']
 refine ⟨h1,by rw [txt_size];exact r1,?_⟩
 cases hi:(Hd.run d.x.toNat ⟨d.inn,d.esc,d.long,d.tx.data.toList⟩ t.data.toList).inn
 ·obtain ⟨q1,q2,q3⟩:=r2 hi
  exact Or.inr ⟨q1,q2,by rw [txt_size,q3];rfl⟩
 ·exact Or.inl rfl
theorem ansD_F {d:Dm} {t:ByteArray} (ht:t.size≤411):(ansD d t).F.length≤206:=by
 unfold ansD ansOf
 rw [if_pos (by omega)]
 split
 ·show ((Hd.finds _ _ _ _).take 400).length≤206
  have h:=Hd.finds_le (gd d.wd) d.x.toNat t.data.toList ⟨d.inn,d.esc,d.long,d.tx.data.toList⟩
  have e:t.data.toList.length=t.size:=by rw [Array.length_toList];rfl
  rw [List.length_take]
  omega
 ·exact Nat.zero_le _
theorem DmOk.tx {d:Dm} (h:DmOk d):d.tx.size≤304:=by
 unfold DmOk rightV at h
 simp only [Bool.and_eq_true,decide_eq_true_eq] at h
 exact h.2.1
theorem endOf_txt (g:Hd.Gd) (s:Hd.St) (h:s.held.length≤304):∀ f ∈ Hd.endOf g s,f.text.length≤304:=by
 intro f hf
 unfold Hd.endOf at hf
 repeat' split at hf
 all_goals simp at hf
 all_goals first | (subst hf;simp;omega) | (subst hf;simp) | skip
theorem finds_txt (g:Hd.Gd) (a:Nat) (l:List UInt8):∀ s:Hd.St,Hd.Right s→∀ f ∈ Hd.finds g a s l,f.text.length≤304:=by
 induction l with
 | nil=>intro s _ f hf;cases hf
 | cons c l ih =>
  intro s hs f hf
  have e:Hd.finds g a s (c :: l)=Hd.fnd g s c ++ Hd.finds g a (Hd.nxt a s c) l:=rfl
  rw [e] at hf
  rcases List.mem_append.1 hf with hf | hf
  ·unfold Hd.fnd at hf
   split at hf
   ·exact endOf_txt g s hs.1 f hf
   ·cases hf
  ·exact ih _ (Hd.nxt_right a s c hs) f hf
structure NlOk (n:Nat) (s:Nl):Prop where
 p:lpOk s.p s.Q=true
 l:s.ln.length≤40
 f:∀ f ∈ s.ln,SfOk f
 d:DmOk s.df
 g:s.gt.length≤n
theorem NlOk.mono {n m:Nat} {s:Nl} (h:NlOk n s) (k:n≤m):NlOk m s:=⟨h.p,h.l,h.f,h.d,Nat.le_trans h.g k⟩
theorem NlOk.line {n:Nat} {s:Nl} (h:NlOk n s) {l:List Sf} (hl:l.length≤40) (hf:∀ f ∈ l,SfOk f):NlOk n (lnN s l):=⟨h.p,hl,hf,h.d,h.g⟩
theorem follow_ok {n:Nat} {s:Nl} (h:NlOk n s) {o:LO} (ho:Fine o):NlOk (n+o.gt.length) (followN s o):=by
 unfold followN
 split
 ·rename_i h0
  refine ⟨ho.ok h0,by show (List.take 40 _).length≤40;rw [List.length_take];omega,fun f hf=>?_,h.d,by show (s.gt ++ o.gt).length≤_;rw [List.length_append];have:=h.g;omega⟩
  have hf':=List.mem_of_mem_take hf
  rcases List.mem_append.1 hf' with h1 | h1
  ·exact h.f f h1
  ·obtain ⟨x,_,rfl⟩:=List.mem_map.1 h1
   exact frameOf_ok x
 ·exact h.mono (Nat.le_add_right _ _)
theorem hear_ok {n:Nat} {s:Nl} (h:NlOk n s) (t:ByteArray):NlOk (n+1) (hearN s t):=by
 unfold hearN
 split
 ·have hf:=fine_hear s.p s.Q (nbRead (txt (Pp.unpack t.data.toList).text))
  exact (follow_ok h hf).mono (by have:=hf.g;omega)
 ·exact h.mono (Nat.le_succ _)
theorem df_ok {n:Nat} {s:Nl} (h:NlOk n s) {t:ByteArray} (ht:t.size≤411):NlOk n (dfN s t):=⟨h.p,h.l,h.f,ansD_ok h.d (by omega),h.g⟩
structure TkOk (n c:Nat) (x:Tk):Prop where
 s:NlOk n x.s
 b:0≤x.bad∧x.bad≤c
 u:0≤x.un∧x.un≤c
theorem take1_ok {n c:Nat} {x:Tk} (h:TkOk n c x) (tx:ByteArray) (d:Hd.Fd):TkOk (n+1) (c+1) (take1 tx x d):=by
 have hb:=h.b
 have hu:=h.u
 unfold take1
 split
 ·refine ⟨hear_ok h.s _,⟨hb.1,by dsimp only;omega⟩,?_⟩
  dsimp only
  split<;>omega
 ·exact ⟨h.s.mono (Nat.le_succ _),⟨by dsimp only;omega,by dsimp only;omega⟩,⟨hu.1,by dsimp only;omega⟩⟩
theorem take1_good (tx:ByteArray) (x:Tk) (d:Hd.Fd):(take1 tx x d).good≤x.good+1:=by
 unfold take1
 split
 ·exact Nat.le_refl _
 ·exact Nat.le_succ _
theorem fold_good (tx:ByteArray) (F:List Hd.Fd):∀ x:Tk,(F.foldl (take1 tx) x).good≤x.good+F.length:=by
 induction F with
 | nil=>intro x;exact Nat.le_refl _
 | cons d F ih =>
  intro x
  have h1:=ih (take1 tx x d)
  have h2:=take1_good tx x d
  rw [List.foldl_cons,List.length_cons]
  omega
theorem fold_ok (tx:ByteArray) (F:List Hd.Fd):∀ (n c:Nat) (x:Tk),TkOk n c x→TkOk (n+F.length) (c+F.length) (F.foldl (take1 tx) x):=by
 induction F with
 | nil=>intro n c x h;exact h
 | cons d F ih =>
  intro n c x h
  have:=ih _ _ _ (take1_ok h tx d)
  rw [List.foldl_cons,List.length_cons,show n+(F.length+1)=n+1+F.length by omega,show c+(F.length+1)=c+1+F.length by omega]
  exact this
theorem TkOk.mono {n c m e:Nat} {x:Tk} (h:TkOk n c x) (h1:n≤m) (h2:c≤e):TkOk m e x:=by
 have hb:=h.b
 have hu:=h.u
 exact ⟨h.s.mono h1,⟨hb.1,by omega⟩,⟨hu.1,by omega⟩⟩
theorem took_ok {n c:Nat} {s:Nl} (h:NlOk n s) {f:Sf} (hf:SfOk f) {bad un:Int} (hb:0≤bad∧bad≤c) (hu:0≤un∧un≤c):TkOk (n+206) (c+206) (tookN f s bad un):=by
 have hl:=ansD_F (d:=s.df) hf.c
 exact (fold_ok f.text _ n c ⟨dfN s f.bytes,bad,un,0⟩ ⟨df_ok h hf.c,hb,hu⟩).mono (by omega) (by omega)
structure NwOk (na nb c:Nat) (w:Nw):Prop where
 a:NlOk na w.a
 b:NlOk nb w.b
 bd:0≤w.bad∧w.bad≤c
 un:0≤w.un∧w.un≤c
theorem NwOk.mono {na nb c ma mb e:Nat} {w:Nw} (h:NwOk na nb c w) (h1:na≤ma) (h2:nb≤mb) (h3:c≤e):NwOk ma mb e w:=by
 have hb:=h.bd
 have hu:=h.un
 exact ⟨h.a.mono h1,h.b.mono h2,⟨hb.1,by omega⟩,⟨hu.1,by omega⟩⟩
theorem cmB_ok {na nb c:Nat} {w:Nw} (h:NwOk na nb c w):NwOk na (nb+206) (c+206) (cmB w):=by
 unfold cmB
 split
 ·exact h.mono (Nat.le_refl _) (Nat.le_add_right _ _) (Nat.le_add_right _ _)
 ·rename_i f r e
  have hl:=h.a.l
  have hf:=h.a.f
  rw [e] at hl hf
  have ht:=took_ok h.b (hf f (List.mem_cons_self ..)) h.bd h.un
  exact ⟨h.a.line (by simp at hl;omega) (fun x hx=>hf x (List.mem_cons_of_mem _ hx)),ht.s,ht.b,ht.u⟩
theorem cmA_ok {na nb c:Nat} {w:Nw} (h:NwOk na nb c w):NwOk (na+206) nb (c+206) (cmA w):=by
 unfold cmA
 split
 ·exact h.mono (Nat.le_add_right _ _) (Nat.le_refl _) (Nat.le_add_right _ _)
 ·rename_i f r e
  have hl:=h.b.l
  have hf:=h.b.f
  rw [e] at hl hf
  have ht:=took_ok h.a (hf f (List.mem_cons_self ..)) h.bd h.un
  exact ⟨ht.s,h.b.line (by simp at hl;omega) (fun x hx=>hf x (List.mem_cons_of_mem _ hx)),ht.b,ht.u⟩
theorem next_ok {na nb c:Nat} {w:Nw} (h:NwOk na nb c w):NwOk na nb c (sendNextN w):=by
 have e:(nextF w.a.p w.a.Q).gt=[]:=by unfold nextF;split<;>rfl
 have hk:=follow_ok h.a (fine_next w.a.p w.a.Q)
 rw [e] at hk
 exact ⟨hk,h.b,h.bd,h.un⟩
theorem again_ok {na nb c:Nat} {w:Nw} (h:NwOk na nb c w):NwOk na nb c (sendAgainN w):=by
 have e:(againF w.a.p w.a.Q).gt=[]:=by unfold againF;split<;>rfl
 have hk:=follow_ok h.a (fine_again w.a.p w.a.Q)
 rw [e] at hk
 exact ⟨hk,h.b,h.bd,h.un⟩
theorem tail_ok {n:Nat} {s:Nl} (h:NlOk n s):NlOk n (lnN s s.ln.tail):=h.line (by rw [List.length_tail];have:=h.l;omega) (fun f hf=>h.f f (List.mem_of_mem_tail hf))
theorem dbl_ok {n:Nat} {s:Nl} (h:NlOk n s):NlOk n (lnN s (dbl s.ln)):=by
 have hl:=h.l
 have hf:=h.f
 cases hs:s.ln with
 | nil=>exact h.line (Nat.zero_le _) (fun f hf=>(by cases hf))
 | cons p r =>
  rw [hs] at hl hf
  by_cases h40:(p :: r).length<40
  ·have e:dbl (p :: r)=p :: p :: r:=if_pos h40
   rw [e]
   refine h.line (by simp at h40 ⊢;omega) fun f hx=>?_
   rcases List.mem_cons.1 hx with rfl | hx
   ·exact hf _ (List.mem_cons_self ..)
   ·exact hf f hx
  ·have e:dbl (p :: r)=p :: r:=if_neg h40
   rw [e]
   exact h.line hl hf
theorem spoil_ok {na nb c:Nat} {w:Nw} (h:NwOk na nb c w) (n:Int):NwOk na nb c (spoilN w n):=by
 unfold spoilN
 split
 ·exact h
 ·rename_i f r e
  have hl:=h.a.l
  have hf:=h.a.f
  rw [e] at hl hf
  refine ⟨h.a.line hl fun x hx=>?_,h.b,h.bd,h.un⟩
  rcases List.mem_cons.1 hx with rfl | hx
  ·have h0:=hf f (List.mem_cons_self ..)
   exact ⟨h0.t,by rw [turnV_size];exact h0.b,by rw [turnV_size];exact h0.c⟩
  ·exact hf x (List.mem_cons_of_mem _ hx)
theorem ev_ok {na nb c:Nat} {w:Nw} (h:NwOk na nb c w) (e:Int):NwOk (na+206) (nb+206) (c+206) (evN w e):=by
 have hm:∀ {u:Nw},NwOk na nb c u→NwOk (na+206) (nb+206) (c+206) u:=fun k=>k.mono (Nat.le_add_right _ _) (Nat.le_add_right _ _) (Nat.le_add_right _ _)
 unfold evN
 repeat' split
 ·exact hm h
 ·exact hm (next_ok h)
 ·exact (cmB_ok h).mono (Nat.le_add_right _ _) (Nat.le_refl _) (Nat.le_refl _)
 ·exact hm ⟨tail_ok h.a,h.b,h.bd,h.un⟩
 ·exact hm ⟨dbl_ok h.a,h.b,h.bd,h.un⟩
 ·exact hm (spoil_ok h _)
 ·exact (cmA_ok h).mono (Nat.le_refl _) (Nat.le_add_right _ _) (Nat.le_refl _)
 ·exact hm ⟨h.a,tail_ok h.b,h.bd,h.un⟩
 ·exact hm (again_ok h)
theorem foldN_ok (L:List Int):∀ {na nb c:Nat} {w:Nw},NwOk na nb c w→NwOk (na+206*L.length) (nb+206*L.length) (c+206*L.length) (L.foldl evN w):=by
 induction L with
 | nil=>intro na nb c w h;exact h
 | cons e L ih =>
  intro na nb c w h
  have:=ih (ev_ok h e)
  rw [List.foldl_cons,List.length_cons]
  exact this.mono (by omega) (by omega) (by omega)
theorem timesB_ok (k:Nat) {na nb c:Nat} {w:Nw} (h:NwOk na nb c w):NwOk na (nb+206*k) (c+206*k) (timesN cmB k w):=by
 induction k with
 | zero=>exact h
 | succ k ih=>exact (cmB_ok ih).mono (Nat.le_refl _) (by omega) (by omega)
theorem timesA_ok (k:Nat) {na nb c:Nat} {w:Nw} (h:NwOk na nb c w):NwOk (na+206*k) nb (c+206*k) (timesN cmA k w):=by
 induction k with
 | zero=>exact h
 | succ k ih=>exact (cmA_ok ih).mono (by omega) (Nat.le_refl _) (by omega)
theorem set_ok {na nb c:Nat} {w:Nw} (h:NwOk na nb c w):NwOk (na+8240) (nb+8240) (c+16480) (setN1 w):=by
 have h1:=next_ok h
 have l1:=h1.a.l
 have h2:=timesB_ok (sendNextN w).a.ln.length h1
 have l2:=h2.b.l
 have h3:=timesA_ok (timesN cmB (sendNextN w).a.ln.length (sendNextN w)).b.ln.length h2
 exact (again_ok h3).mono (by omega) (by omega) (by omega)
theorem sets_ok (k:Nat) {na nb c:Nat} {w:Nw} (h:NwOk na nb c w):NwOk (na+8240*k) (nb+8240*k) (c+16480*k) (timesN setN1 k w):=by
 induction k with
 | zero=>exact h
 | succ k ih=>exact (set_ok ih).mono (by omega) (by omega) (by omega)
theorem lpNew_ok {wi:Int} (hw:winOk wi=true) {Q:List ByteArray} (hq:qOk Q=true):lpOk (lpNew wi) Q=true:=by
 unfold lpNew
 rw [if_pos hw]
 unfold lpOk
 have e:far 0 0=0:=by decide
 have:=winOk_iff hw
 simp only [hw,hq,e,Bool.true_and,Bool.and_eq_true,decide_eq_true_eq]
 exact ⟨by decide,by decide,by decide,by omega,by omega⟩
theorem nl0_ok {wi:Int} (hw:winOk wi=true) {Q:List ByteArray} (hq:qOk Q=true):NlOk 0 (nl0 wi Q) :=
 ⟨lpNew_ok hw hq,Nat.zero_le _,fun f hf=>(by cases hf),by show rightV 0 false false false ⟨#[]⟩=true;decide,Nat.zero_le _⟩
theorem lineN_ok {T:List ByteArray} {wi:Int} (hw:winOk wi=true) (hq:qOk T=true) {L:List Int} (hL:L.length≤400) (st:Bool):NwOk 1000000 1000000 10000000 (lineN T wi L st):=by
 have h0:NwOk 0 0 0 ⟨nl0 wi T,nl0 wi [],0,0⟩:=⟨nl0_ok hw hq,nl0_ok hw (by decide),⟨Int.le_refl _,Int.le_refl _⟩,⟨Int.le_refl _,Int.le_refl _⟩⟩
 have h1:=foldN_ok L h0
 unfold lineN
 dsimp only
 split
 ·exact (sets_ok 100 h1).mono (by omega) (by omega) (by omega)
 ·exact h1.mono (by omega) (by omega) (by omega)
end Go.Proofs.YtkcghhkkepndnaaGreatDoor
namespace Go.Proofs.YtkcghhkkepndnaaGreatDoor
open Go.RowKit
structure Fz (E K K':Nat→Prop) (W W':World):Prop where
 os:W'.os=W.os
 tape:W'.tape=W.tape
 output:W'.output=W.output
 size:W.heap.size≤W'.heap.size
 same:∀ k,k<W.heap.size→¬ E k→¬ K k→W'.heap[k]?=W.heap[k]?
 own:∀ g,K' g→K g∨W.heap.size≤g
theorem Fz.trans {E K K' K'':Nat→Prop} {W W' W'':World} (h:Fz E K K' W W') (k:Fz E K' K'' W' W''):Fz E K K'' W W'' :=
 ⟨k.os.trans h.os,k.tape.trans h.tape,k.output.trans h.output,Nat.le_trans h.size k.size,fun i hi h1 h2=>(k.same i (Nat.lt_of_lt_of_le hi h.size) h1 fun e=>(h.own i e).elim h2 (fun e=>by omega)).trans (h.same i hi h1 h2),
  fun g hg=>(k.own g hg).elim (h.own g) (fun e=>Or.inr (Nat.le_trans h.size e))⟩
theorem Fz.of_below {E K:Nat→Prop} {W W':World} (h:Below W.heap.size W W'):Fz E K K W W' :=
 ⟨h.os,h.tape,h.output,h.size,fun k hk _ _=>h.block k hk,fun _ hg=>Or.inl hg⟩
theorem Fz.refl (E K:Nat→Prop) (W:World):Fz E K K W W:=Fz.of_below (Below.refl _ _)
theorem Fz.mono {E E' K K':Nat→Prop} {W W':World} (h:Fz E K K' W W') (he:∀ k,E k→E' k):Fz E' K K' W W' :=
 ⟨h.os,h.tape,h.output,h.size,fun k hk h1 h2=>h.same k hk (fun e=>h1 (he k e)) h2,h.own⟩
theorem Fz.wide {E K K':Nat→Prop} {W W':World} (h:Fz E K K' W W') (J:Nat→Prop):Fz E (fun g=>K g∨J g) (fun g=>K' g∨J g) W W' :=
 ⟨h.os,h.tape,h.output,h.size,fun k hk h1 h2=>h.same k hk h1 (fun e=>h2 (Or.inl e)),fun g hg=>hg.elim (fun e=>(h.own g e).imp Or.inl id) (fun e=>Or.inl (Or.inr e))⟩
theorem Fz.wide' {E K K':Nat→Prop} {W W':World} (h:Fz E K K' W W') (J:Nat→Prop):Fz E (fun g=>J g∨K g) (fun g=>J g∨K' g) W W' :=
 ⟨h.os,h.tape,h.output,h.size,fun k hk h1 h2=>h.same k hk h1 (fun e=>h2 (Or.inr e)),fun g hg=>hg.elim (fun e=>Or.inl (Or.inl e)) (fun e=>(h.own g e).imp Or.inr id)⟩
theorem Fz.put {E K K':Nat→Prop} {W W':World} (h:Fz E K K' W W') {l:Nat} (hl:E l) (o:Obj):Fz E K K' W (W'.putObj l o) :=
 ⟨h.os,h.tape,h.output,by rw [World.putObj_size];exact h.size,fun k hk h1 h2=>(World.putObj_heap_other (fun e=>h1 (by first | (rw [e];exact hl) | (rw [← e];exact hl)))).trans (h.same k hk h1 h2),h.own⟩
theorem Fz.low {E K K':Nat→Prop} {W W':World} {base:Nat} (h:Fz E K K' W W') (h1:∀ k,E k→base≤k) (h2:∀ k,K k→base≤k) (hs:base≤W.heap.size):Below base W W' :=
 ⟨h.os,h.tape,h.output,h.size,fun k hk=>h.same k (by omega) (fun e=>by have:=h1 k e;omega) (fun e=>by have:=h2 k e;omega)⟩
def Kv (v:Value) (g:Nat):Prop:=v.ownBlock=some g
def K2 (vl vg:Value) (g:Nat):Prop:=vl.ownBlock=some g∨vg.ownBlock=some g
theorem Fz.line {B:Nat} {vl vl':Value} (vg:Value) {W W':World} (f:Fr B vl vl' W W'):Fz (fun k=>k=B) (K2 vl vg) (K2 vl' vg) W W' :=
 ⟨f.os,f.tape,f.output,f.size,fun k hk h1 h2=>f.same k hk h1 (fun e=>h2 (Or.inl e)),fun g hg=>hg.elim (fun e=>(f.own g e).imp Or.inl id) (fun e=>Or.inl (Or.inr e))⟩
def dmC (d:Dm):List Value:=[.bool d.wd,.int .i64 d.x,.bool d.inn,.bool d.esc,.bool d.long,.string d.tx]
def slC (p:Lp) (vq vl:Value) (d:Dm) (vg:Value):List Value:=(lpC p vq).toList ++ [vl] ++ dmC d ++ [vg]
structure Sn (base:Nat) (W:World) (B:Nat) (X Z:List Value) (s:Nl) (vq vl vg:Value):Prop where
 row:W.heap[B]?=some (.cells (X ++ slC s.p vq vl s.df vg ++ Z).toArray 63)
 hq:W.ownsRow base 9 1 vq s.Q.length (scells s.Q)
 hl:HoldsK W base vl s.ln
 hg:W.ownsRow base 9 1 vg s.gt.length (scells s.gt)
 ap:∀ g,vq.ownBlock=some g→vg.ownBlock≠some g
 le:s.ln.length≤40
 bs:base≤W.heap.size
section
variable {base:Nat} {W W':World} {B:Nat} {X Z:List Value} {s:Nl} {vq vl vg vl':Value}
theorem Sn.lt (h:Sn base W B X Z s vq vl vg):B<W.heap.size:=(Array.getElem?_eq_some_iff.1 h.row).1
theorem Sn.wr (h:Sn base W B X Z s vq vl vg):Wr base 63 W B (X ++ (lpC s.p vq).toList) (dmC s.df ++ [vg] ++ Z) vl s.ln :=
 ⟨by rw [h.row];unfold slC;simp,h.hl,h.le,h.bs,by decide⟩
theorem Sn.wrLen (_h:Sn base W B X Z s vq vl vg):(X ++ (lpC s.p vq).toList).length=X.length+6:=by rw [List.length_append];rfl
theorem own_typ {W:World} {base:Nat} {e:TypeId} {size n:Nat} {v:Value} {xs:List Value} (h:W.ownsRow base e size v n xs) (g:Nat) (hg:v.ownBlock=some g):base≤g∧g<W.heap.size∧∃ cur,W.heap[g]?=some (.cells cur e):=by
 rcases h.2 with ⟨e1,_⟩ | ⟨g',cap,cur,e1,h2,h3,_⟩
 ·rw [e1] at hg;cases hg
 ·rw [e1] at hg
  cases hg
  exact ⟨h2,(Array.getElem?_eq_some_iff.1 h3).1,cur,h3⟩
theorem own_blk {W W':World} {base:Nat} {e:TypeId} {size n:Nat} {v:Value} {xs:List Value} (h:W.ownsRow base e size v n xs) (hb:∀ (g:Nat) (cur:Array Value),v.ownBlock=some g→W.heap[g]?=some (.cells cur e)→W'.heap[g]?=W.heap[g]?):W'.ownsRow base e size v n xs :=
 ⟨h.1,h.2.imp id fun ⟨g,cap,cur,h1,h2,h3,h4⟩=>⟨g,cap,cur,h1,h2,(hb g cur (by rw [h1];rfl) h3).trans h3,h4⟩⟩
theorem own_low {W:World} {b b':Nat} {e:TypeId} {size n:Nat} {v:Value} {xs:List Value} (h:W.ownsRow b e size v n xs) (hb:b'≤b):W.ownsRow b' e size v n xs :=
 ⟨h.1,h.2.imp id fun ⟨g,cap,cur,h1,h2,h3⟩=>⟨g,cap,cur,h1,Nat.le_trans hb h2,h3⟩⟩
theorem typ_ne {W:World} {g B:Nat} {c1 c2:Array Value} {T1 T2:TypeId} (h1:W.heap[g]?=some (.cells c1 T1)) (h2:W.heap[B]?=some (.cells c2 T2)) (hT:T1≠T2):g≠B:=fun e=>by
 rw [e,h2] at h1
 injection h1 with h1
 injection h1 with _ h1
 exact hT h1.symm
theorem Sn.below (h:Sn base W B X Z s vq vl vg) (hb:Below W.heap.size W W'):Sn base W' B X Z s vq vl vg :=
 ⟨(hb.block B h.lt).trans h.row,own_blk h.hq fun g _ _ hg=>hb.block g (Array.getElem?_eq_some_iff.1 hg).1,h.hl.keep fun g _ _ _ hg=>hb.block g (Array.getElem?_eq_some_iff.1 hg).1,own_blk h.hg fun g _ _ hg=>hb.block g (Array.getElem?_eq_some_iff.1 hg).1,h.ap,h.le,Nat.le_trans h.bs hb.size⟩
theorem Sn.cg (h:Sn base W B X Z s vq vl vg):W.cell? ⟨B,X.length+13,none⟩=some vg∧W.frozen? ⟨B,X.length+13,none⟩=false:=by
 have r:W.heap[B]?=some (.cells ((X ++ (lpC s.p vq).toList ++ [vl] ++ dmC s.df) ++ [vg] ++ Z).toArray 63):=by rw [h.row];unfold slC;simp
 have e:(X ++ (lpC s.p vq).toList ++ [vl] ++ dmC s.df).length=X.length+13:=by rw [List.length_append,List.length_append,List.length_append];rfl
 have:=cell_blk r
 rw [e] at this
 exact ⟨this,frz h.row _⟩
theorem Sn.dm (h:Sn base W B X Z s vq vl vg):W.rangeAt B (X.length+7) (dmC s.df):=by
 have r:W.heap[B]?=some (.cells ((X ++ (lpC s.p vq).toList ++ [vl]) ++ dmC s.df ++ ([vg] ++ Z)).toArray 63):=by rw [h.row];unfold slC;simp
 have e:(X ++ (lpC s.p vq).toList ++ [vl]).length=X.length+7:=by rw [List.length_append,List.length_append];rfl
 have:=range_blk r
 rw [e] at this
 exact this
theorem Sn.dmT (h:Sn base W B X Z s vq vl vg):W.there B (X.length+7) 6:=fun j hj=>by
 have h1:=h.dm j (dmC s.df)[j] (List.getElem?_eq_getElem (by exact hj))
 rw [h1]
 exact ⟨rfl,frz h.row _⟩
theorem Sn.lp (h:Sn base W B X Z s vq vl vg):W.rangeAt B X.length (lpC s.p vq).toList:=by
 have r:W.heap[B]?=some (.cells (X ++ (lpC s.p vq).toList ++ ([vl] ++ dmC s.df ++ [vg] ++ Z)).toArray 63):=by rw [h.row];unfold slC;simp
 exact range_blk r
theorem Sn.kk (h:Sn base W B X Z s vq vl vg) (g:Nat) (hg:K2 vl vg g):base≤g∧g<W.heap.size∧g≠B:=by
 rcases hg with e | e
 ·obtain ⟨h1,h2,h3,_⟩:=h.wr.ownB g e
  exact ⟨h2,h3,h1⟩
 ·obtain ⟨h1,h2,c,h3⟩:=own_typ h.hg g e
  exact ⟨h1,h2,typ_ne h3 h.row (by decide)⟩
theorem Sn.setLine (h:Sn base W B X Z s vq vl vg) {L:List Sf} (f:Fr B vl vl' W W') (w:Wr base 63 W' B (X ++ (lpC s.p vq).toList) (dmC s.df ++ [vg] ++ Z) vl' L):Sn base W' B X Z (lnN s L) vq vl' vg:=by
 have k:∀ (g:Nat) (cur:Array Value),W.heap[g]?=some (.cells cur 9)→W'.heap[g]?=W.heap[g]?:=fun g cur hg=>by
  refine f.same g (Array.getElem?_eq_some_iff.1 hg).1 (typ_ne hg h.row (by decide)) (fun e=>?_)
  obtain ⟨_,_,_,c,h2⟩:=h.wr.ownB g e
  exact typ_ne hg h2 (by decide) rfl
 refine ⟨?_,own_blk h.hq fun g cur _ hg=>k g cur hg,w.hk,own_blk h.hg fun g cur _ hg=>k g cur hg,h.ap,w.le,w.bs⟩
 rw [w.row]
 unfold slC
 simp [lnN]
theorem Sn.setAll (h:Sn base W B X Z s vq vl vg) (p:Lp) (vq':Value) (Q:List ByteArray) (d:Dm) (hq:W.ownsRow base 9 1 vq' Q.length (scells Q)) (ap:∀ g,vq'.ownBlock=some g→vg.ownBlock≠some g)
  (hr:W'.heap[B]?=some (.cells (X ++ slC p vq' vl d vg ++ Z).toArray 63)) (hs:∀ k,k≠B→W'.heap[k]?=W.heap[k]?) (hz:W.heap.size≤W'.heap.size):Sn base W' B X Z ⟨p,Q,s.ln,d,s.gt⟩ vq' vl vg :=
 ⟨hr,own_blk hq fun g _ _ hg=>hs g (typ_ne hg h.row (by decide)),h.hl.keep fun g _ _ _ hg=>hs g (typ_ne hg h.row (by decide)),own_blk h.hg fun g _ _ hg=>hs g (typ_ne hg h.row (by decide)),ap,h.le,Nat.le_trans h.bs hz⟩
theorem Fz.cells (B:Nat) (K:Nat→Prop) (W:World) (o:Nat) (vs:List Value):Fz (fun k=>k=B) K K W (W.setCells B o vs):=by
 have hb:=below_set3 (n:=0) (g:=B) (a:=W) (Nat.zero_le _) vs o W (Below.refl 0 W)
 exact ⟨hb.os,hb.tape,hb.output,hb.size,fun k _ h1 _=>set_other3 h1 vs o W,fun _ h=>Or.inl h⟩
theorem Sn.setP (h:Sn base W B X Z s vq vl vg) (p:Lp) (vq':Value) (Q:List ByteArray) (hq:W.ownsRow base 9 1 vq' Q.length (scells Q)) (ap:∀ g,vq'.ownBlock=some g→vg.ownBlock≠some g) :
  Sn base (W.setCells B X.length (lpC p vq').toList) B X Z ⟨p,Q,s.ln,s.df,s.gt⟩ vq' vl vg:=by
 have r:W.heap[B]?=some (.cells (X ++ (lpC s.p vq).toList ++ ([vl] ++ dmC s.df ++ [vg] ++ Z)).toArray 63):=by rw [h.row];unfold slC;simp
 have r2:=set_blk (lpC s.p vq).toList (lpC p vq').toList X _ W r rfl
 refine h.setAll p vq' Q s.df hq ap ?_ (fun k hk=>set_other3 hk _ _ W) (below_set3 (n:=0) (g:=B) (a:=W) (Nat.zero_le _) _ _ W (Below.refl 0 W)).size
 rw [r2]
 unfold slC
 simp
theorem Sn.setD (h:Sn base W B X Z s vq vl vg) (d:Dm):Sn base (W.setCells B (X.length+7) (dmC d)) B X Z ⟨s.p,s.Q,s.ln,d,s.gt⟩ vq vl vg:=by
 have r:W.heap[B]?=some (.cells ((X ++ (lpC s.p vq).toList ++ [vl]) ++ dmC s.df ++ ([vg] ++ Z)).toArray 63):=by rw [h.row];unfold slC;simp
 have r2:=set_blk (dmC s.df) (dmC d) _ _ W r rfl
 have e:(X ++ (lpC s.p vq).toList ++ [vl]).length=X.length+7:=by rw [List.length_append,List.length_append];rfl
 rw [e] at r2
 refine h.setAll s.p vq s.Q d h.hq h.ap ?_ (fun k hk=>set_other3 hk _ _ W) (below_set3 (n:=0) (g:=B) (a:=W) (Nat.zero_le _) _ _ W (Below.refl 0 W)).size
 rw [r2]
 unfold slC
 simp
theorem Sn.setG (h:Sn base W B X Z s vq vl vg) {W1:World} {vg':Value} {G:List ByteArray} (hg:W1.ownsRow base 9 1 vg' G.length (scells G)) (gr:W.grownBy W1 vg.ownBlock) (ho:∀ m,vg'.ownBlock=some m→vg.ownBlock=some m∨W.heap.size≤m) :
  Sn base (W1.setCell ⟨B,X.length+13,none⟩ vg') B X Z ⟨s.p,s.Q,s.ln,s.df,G⟩ vq vl vg'∧Fz (fun k=>k=B) (K2 vl vg) (K2 vl vg') W (W1.setCell ⟨B,X.length+13,none⟩ vg'):=by
 have keep:∀ k,k<W.heap.size→vg.ownBlock≠some k→W1.heap[k]?=W.heap[k]?:=fun k hk h1=>gr.block k hk (fun e=>h1 e.symm)
 have nB:vg.ownBlock≠some B:=fun e=>by
  obtain ⟨_,_,c,h3⟩:=own_typ h.hg B e
  exact typ_ne h3 h.row (by decide) rfl
 have r:W1.heap[B]?=some (.cells ((X ++ (lpC s.p vq).toList ++ [vl] ++ dmC s.df) ++ [vg] ++ Z).toArray 63):=by rw [keep B h.lt nB,h.row];unfold slC;simp
 have r2:=set_blk [vg] [vg'] _ _ W1 r rfl
 have e:(X ++ (lpC s.p vq).toList ++ [vl] ++ dmC s.df).length=X.length+13:=by rw [List.length_append,List.length_append,List.length_append];rfl
 rw [e] at r2
 have ot:∀ k,k≠B→(W1.setCell ⟨B,X.length+13,none⟩ vg').heap[k]?=W1.heap[k]?:=fun k hk=>heap_setCell_other _ _ _ _ hk
 have hz:=((Below.refl 0 W1).setCell (p:=⟨B,X.length+13,none⟩) (Nat.zero_le _) vg')
 have hsz:W.heap.size≤(W1.setCell ⟨B,X.length+13,none⟩ vg').heap.size:=Nat.le_trans gr.size hz.size
 refine ⟨⟨?_,own_blk h.hq fun g cur hv hg1=>?_,h.hl.keep fun g cur hv _ hg1=>?_,own_blk hg fun g cur _ hg1=>ot g (typ_ne hg1 r (by decide)),fun g h1 h2=>?_,h.le,Nat.le_trans h.bs hsz⟩,hz.os.trans gr.os,hz.tape.trans gr.tape,hz.output.trans gr.output,hsz,fun k hk h1 h2=>(ot k h1).trans (keep k hk fun e=>h2 (Or.inr e)),fun g hg1=>?_⟩
 ·have r3:(W1.setCell ⟨B,X.length+13,none⟩ vg').heap[B]?=_:=r2
  rw [r3]
  unfold slC
  simp
 ·exact (ot g (typ_ne hg1 h.row (by decide))).trans (keep g (Array.getElem?_eq_some_iff.1 hg1).1 fun e=>h.ap g hv e)
 ·refine (ot g (typ_ne hg1 h.row (by decide))).trans (keep g (Array.getElem?_eq_some_iff.1 hg1).1 fun e=>?_)
  obtain ⟨_,_,c,h3⟩:=own_typ h.hg g e
  exact typ_ne hg1 h3 (by decide) rfl
 ·rcases ho g h2 with e1 | e1
  ·exact h.ap g h1 e1
  ·have:=(own_typ h.hq g h1).2.1
   omega
 ·exact hg1.elim (fun e=>Or.inl (Or.inl e)) (fun e=>(ho g e).imp Or.inr id)
end
end Go.Proofs.YtkcghhkkepndnaaGreatDoor
namespace Go.Proofs.YtkcghhkkepndnaaGreatDoor
open Go.RowKit
theorem there_blkL {W:World} {B:Nat} {X Y Z:List Value} {T:TypeId} (h:W.heap[B]?=some (.cells (X ++ Y ++ Z).toArray T)):W.there B X.length Y.length:=fun j hj=>by
 have:=range_blk h j Y[j] (List.getElem?_eq_getElem hj)
 rw [this]
 exact ⟨rfl,frz h _⟩
theorem infoL6:(Tryz.prog.info? 54).map (·.size)=some 6:=by kernel_rfl
theorem infoL9:(Tryz.prog.info? 79).map (·.size)=some 9:=by kernel_rfl
theorem infoD6:(Tryz.prog.info? 59).map (·.size)=some 6:=by kernel_rfl
set_option maxHeartbeats 4000000 in
set_option maxRecDepth 100000 in
theorem iBecomeL {T:TypeId} {W:World} {B:Nat} {X Y Z:List Value} (row:W.heap[B]?=some (.cells (X ++ Y ++ Z).toArray T)) (hY:Y.length=6) (p:Lp) (v vf vg:Value) (hv:v.oneCell'=true) (cd:Int) :
  Calls Tryz.prog 55 #[.pointer (some ⟨B,X.length,none⟩),.agg (loC p v vf vg cd)] W fun e W'=>e=.returned (.tuple #[])∧∃ W1,Below W.heap.size W W1∧W'=if cd=0 then W1.setCells B X.length (lpC p v).toList else W1:=by
 have hb:Below W.heap.size W (W.alloc (.cells (loC p v vf vg cd) 79)):=(Below.refl _ _).alloc (Nat.le_refl _) _
 have hA:=heap_alloc_new W (.cells (loC p v vf vg cd) 79)
 have hc1:(W.alloc (.cells (loC p v vf vg cd) 79)).cell? ⟨W.heap.size,8,none⟩=some (.int .i64 cd):=by rw [cr hA];rfl
 have rB:(W.alloc (.cells (loC p v vf vg cd) 79)).heap[B]?=some (.cells (X ++ Y ++ Z).toArray T):=(hb.block B (Array.getElem?_eq_some_iff.1 row).1).trans row
 have rA:(W.alloc (.cells (loC p v vf vg cd) 79)).rangeAt W.heap.size 0 (lpC p v).toList:=by
  have hA':(W.alloc (.cells (loC p v vf vg cd) 79)).heap[W.heap.size]?=some (.cells ([] ++ (lpC p v).toList ++ [vf,vg,.int .i64 cd]).toArray 79):=hA
  exact range_blk hA'
 have h3:(lpC p v).all (·.oneCell')=true:=by
  unfold lpC
  refine all_oneCell_toArray fun x hx=>?_
  simp only [List.mem_cons,List.not_mem_nil,or_false] at hx
  rcases hx with rfl | rfl | rfl | rfl | rfl | rfl
  ·rfl
  ·rfl
  ·rfl
  ·rfl
  ·exact hv
  ·rfl
 have tB:=there_blkL rB
 rw [hY] at tB
 have HA:=hide (And.intro hb (And.intro rA tB))
 clear hb hA rA tB rB row
 generalize hk:X.length=k at *
 have hl6:(lpC p v).toList.length=6:=rfl
 by_cases h0:cd=0
 ·subst h0
  simp only [if_true]
  go_enter Tryz.func55,Tryz.ntmps55
  go_wp2_with (first
   | (refine Great.wpList_allocTo rfl (some 3) rfl (.pointer (some ⟨W.heap.size,0,none⟩)) (.cells (loC p v vf vg 0) 79) (by simp [go_sem]) ?_)
   | (refine wpList_load_mid rfl 54 (.tmp 8) rfl W.heap.size 0 rfl (lpC p v).toList _ (uh HA).2.1 Tryz.underlying54 rfl (by rw [hl6];exact infoL6) ?_)
   | (refine wpList_store_mid rfl 54 (.tmp 10) (.tmp 9) rfl B k (lpC p v) rfl rfl (by exact (uh HA).2.2) (by exact infoL6) h3 ?_))
  refine bodyPost_end (results_none rfl _ _ _) rfl ?_
  exact ⟨rfl,_,(uh HA).1,rfl⟩
 ·simp only [if_neg h0]
  go_enter Tryz.func55,Tryz.ntmps55
  go_wp2_with (first
   | (refine Great.wpList_allocTo rfl (some 3) rfl (.pointer (some ⟨W.heap.size,0,none⟩)) (.cells (loC p v vf vg cd) 79) (by simp [go_sem]) ?_))
  refine bodyPost_end (results_none rfl _ _ _) rfl ?_
  exact ⟨rfl,_,(uh HA).1,rfl⟩
theorem row4L {w:World} {B:Nat} {x0 x1 x2 x3:Value} {T:TypeId} (h:w.heap[B]?=some (.cells #[x0,x1,x2,x3] T)) :
  w.cell? ⟨B,0,none⟩=some x0∧w.cell? ⟨B,1,none⟩=some x1∧w.cell? ⟨B,2,none⟩=some x2∧w.cell? ⟨B,3,none⟩=some x3 :=
 ⟨by rw [cr h];rfl,by rw [cr h];rfl,by rw [cr h];rfl,by rw [cr h];rfl⟩
set_option maxHeartbeats 2000000 in
theorem iFrameOf (f:Nb) (w:World) (hT:Lib.Utf8Tabs 0 1 w) :
  Calls Tryz.prog 57 #[nbV f] w fun e w'=>e=.returned (.agg #[.string (frameOfF f).text,.string (frameOfF f).bytes])∧Below w.heap.size w w':=by
 have hs:=told_sz9 f
 have hok:=frameOf_ok f
 have hb1:Below w.heap.size w ((w.alloc (.cells #[.int .i64 f.kind,.int .i64 f.ns,.int .i64 f.nr,.string f.text] 96)).alloc (.cells #[.string ⟨#[]⟩,.string ⟨#[]⟩] 82)):=((Below.refl _ _).alloc (Nat.le_refl _) _).alloc (by simp) _
 obtain ⟨hN0,hN1,hbW,hsW⟩:=new2l w (.cells #[.int .i64 f.kind,.int .i64 f.ns,.int .i64 f.nr,.string f.text] 96) (.cells #[.string ⟨#[]⟩,.string ⟨#[]⟩] 82)
 have C1:=hide fun v=>iNbBytes f v
 have C2:=hide fun v=>implPackAll 33 (nbTold f) true true v (by unfold maxLen;omega)
 have C3:=hide fun v (hv:Below w.heap.size w v)=>implFrameAll (packV 33 (nbTold f) true true) 0 false v (by have:(packV 33 (nbTold f) true true).size≤300:=hok.t;unfold maxLen;omega) (Utf8Tabs_below hT hv)
 unfold frameOfF
 dsimp only
 generalize frameV (packV 33 (nbTold f) true true) 0 false=V3 at *
 generalize packV 33 (nbTold f) true true=V2 at *
 generalize nbTold f=V1 at *
 obtain ⟨kd,ns,nr,t⟩:=f
 dsimp only [nbV] at *
 clear hs hok hb1
 have HN:=hide (And.intro hN0 (And.intro hN1 (And.intro hbW hsW)))
 obtain ⟨x0,x1,x2,x3⟩:=row4L hN0
 clear hN0 hN1 hbW
 generalize hW:(w.alloc (.cells #[.int .i64 kd,.int .i64 ns,.int .i64 nr,.string t] 96)).alloc (.cells #[.string ⟨#[]⟩,.string ⟨#[]⟩] 82)=W at *
 go_enter Tryz.func57,Tryz.ntmps57
 go_wp2_with fail
 refine (uh C1 _).mono ?_
 rintro e w2 ⟨rfl,hb2⟩
 have H2:=hide hb2
 clear hb2
 go_wp2_with fail
 refine (uh C2 _).mono ?_
 rintro e w3 ⟨rfl,hb3⟩
 have H3:=hide hb3
 clear hb3
 go_wp2_with fail
 refine (uh C3 _ ((uh HN).2.2.1.trans (((uh H2).trans ((uh H3).mono (uh H2).size)).mono (by omega)))).mono ?_
 rintro e w4 ⟨rfl,hb4⟩
 have hb:Below W.heap.size W w4:=((uh H2).trans ((uh H3).mono (uh H2).size)).trans (hb4.mono (Nat.le_trans (uh H2).size (uh H3).size))
 have r4:w4.heap[w.heap.size+1]?=some (.cells #[.string ⟨#[]⟩,.string ⟨#[]⟩] 82):=(hb.block _ (by omega)).trans (uh HN).2.1
 have q0:w4.cell? ⟨w.heap.size+1,0,none⟩=some (.string ⟨#[]⟩):=by rw [cr r4];rfl
 have q1:w4.cell? ⟨w.heap.size+1,1,none⟩=some (.string ⟨#[]⟩):=by rw [cr r4];rfl
 have f0:w4.frozen? ⟨w.heap.size+1,0,none⟩=false:=frz r4 _
 have f1:w4.frozen? ⟨w.heap.size+1,1,none⟩=false:=frz r4 _
 have HB:=hide ((uh HN).2.2.1.trans (hb.mono (by omega)))
 clear hb hb4 r4
 go_wp2_with fail
 have m0:((w4.setCell ⟨w.heap.size+1,0,none⟩ (.string V2)).setCell ⟨w.heap.size+1,1,none⟩ (.string V3)).cell? ⟨w.heap.size+1,0,none⟩=some (.string V2):=by
  rw [World.cell?_setCell_other _ _ _ _ (fun e=>by injection e with _ e _;cases e)]
  exact World.cell?_setCell_same _ _ _ q0
 have m1:((w4.setCell ⟨w.heap.size+1,0,none⟩ (.string V2)).setCell ⟨w.heap.size+1,1,none⟩ (.string V3)).cell? ⟨w.heap.size+1,1,none⟩=some (.string V3):=by
  have q2:(w4.setCell ⟨w.heap.size+1,0,none⟩ (.string V2)).cell? ⟨w.heap.size+1,1,none⟩=some (.string ⟨#[]⟩):=by
   rw [World.cell?_setCell_other _ _ _ _ (fun e=>by injection e with _ e _;cases e)]
   exact q1
  exact World.cell?_setCell_same _ _ _ q2
 refine bodyPost_ret (v:=.agg #[.string V2,.string V3]) (by simp [results,Tryz.results57,go_sem,m0,m1]) rfl ⟨rfl,?_⟩
 exact (((uh HB).setCell (p:=⟨w.heap.size+1,0,none⟩) (Nat.le_succ _) _).setCell (p:=⟨w.heap.size+1,1,none⟩) (Nat.le_succ _) _)
end Go.Proofs.YtkcghhkkepndnaaGreatDoor
