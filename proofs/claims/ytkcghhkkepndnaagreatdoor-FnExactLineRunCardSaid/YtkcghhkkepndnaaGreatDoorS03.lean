/- Numbered frames: which are right, and their bytes, the program's walks and the model's; no condition. The map of texts that were sent, by their numbers: what it holds; put, looked up, deleted, cleared, counted; no condition but those named. Texts that were handed in: the law's own copies, their letters counted; what lay in memory stands. A numbered line's end: its cells; the law's words on it: copied, counted, compared, marked, held; what lay in memory stands but for the marked row. LapbNew, the program's and the model's; no condition. LapbRight, the program's: is an end of a numbered line right; what lay in memory stands. -/
import Derived.Test.YtkcghhkkepndnaaGreatDoorS00
import Derived.MapKept
import Derived.Test.YtkcghhkkepndnaaGreatDoorS02
import Derived.Deep.WholeRow
import Derived.Deep.RegionHeld
import Derived.Test.YtkcghhkkepndnaaGreatDoorShW
namespace Go.Proofs.YtkcghhkkepndnaaGreatDoor
open Go.RowKit
structure Nb where
 kind:Int
 ns:Int
 nr:Int
 text:ByteArray
abbrev nbV (f:Nb):Value:=.agg #[.int .i64 f.kind,.int .i64 f.ns,.int .i64 f.nr,.string f.text]
def nbOk (f:Nb):Bool:=decide ((0≤f.nr∧f.nr≤7)∧((f.kind=1∧(0≤f.ns∧f.ns≤7)∧f.text.size≤200)∨((f.kind=2∨f.kind=3)∧f.ns=0∧f.text.size=0)))
theorem nb_ways (f:Nb) (P:Prop)
  (h0:¬ (0≤f.nr∧f.nr≤7)→nbOk f=false→P)
  (h1:(0≤f.nr∧f.nr≤7)→f.kind=1→¬ (0≤f.ns∧f.ns≤7)→nbOk f=false→P)
  (h2:(0≤f.nr∧f.nr≤7)→f.kind=1→(0≤f.ns∧f.ns≤7)→¬ (f.text.size≤200)→nbOk f=false→P)
  (h3:(0≤f.nr∧f.nr≤7)→f.kind=1→(0≤f.ns∧f.ns≤7)→f.text.size≤200→nbOk f=true→P)
  (h4:(0≤f.nr∧f.nr≤7)→f.kind=2∨f.kind=3→f.ns≠0→nbOk f=false→P)
  (h5:(0≤f.nr∧f.nr≤7)→f.kind=2∨f.kind=3→f.ns=0→f.text.size≠0→nbOk f=false→P)
  (h6:(0≤f.nr∧f.nr≤7)→f.kind=2∨f.kind=3→f.ns=0→f.text.size=0→nbOk f=true→P)
  (h7:(0≤f.nr∧f.nr≤7)→f.kind≠1→f.kind≠2→f.kind≠3→nbOk f=false→P):P:=by
 by_cases a:0≤f.nr∧f.nr≤7
 ·by_cases k1:f.kind=1
  ·by_cases b:0≤f.ns∧f.ns≤7
   ·by_cases c:f.text.size≤200
    ·exact h3 a k1 b c (decide_eq_true (by omega))
    ·exact h2 a k1 b c (decide_eq_false (by omega))
   ·exact h1 a k1 b (decide_eq_false (by omega))
  ·by_cases k2:f.kind=2∨f.kind=3
   ·by_cases b:f.ns=0
    ·by_cases c:f.text.size=0
     ·exact h6 a k2 b c (decide_eq_true (by omega))
     ·exact h5 a k2 b c (decide_eq_false (by omega))
    ·exact h4 a k2 b (decide_eq_false (by omega))
   ·exact h7 a k1 (by omega) (by omega) (decide_eq_false (by omega))
 ·exact h0 a (decide_eq_false (by omega))
set_option maxHeartbeats 400000 in
theorem iWithin (x lo hi:Int) (w:World):Calls Tryz.prog 36 #[.int .i64 x,.int .i64 lo,.int .i64 hi] w fun e w'=>e=.returned (.bool (decide (lo≤x) && decide (x≤hi)))∧w'=w:=by
 by_cases h1:lo≤x
 ·have d1:decide (lo≤x)=true:=decide_eq_true h1
  rw [d1,Bool.true_and]
  go_enter Tryz.func36,Tryz.ntmps36
  go_wp2
  go_ret
  exact ⟨rfl,rfl⟩
 ·have d1:decide (lo≤x)=false:=decide_eq_false h1
  rw [d1,Bool.false_and]
  go_enter Tryz.func36,Tryz.ntmps36
  go_wp2
  go_ret
  exact ⟨rfl,rfl⟩
set_option maxHeartbeats 400000 in
theorem sWithin (x lo hi:Int) (w:World):Calls Tryz.prog 29 #[.int .i64 x,.int .i64 lo,.int .i64 hi] w fun e w'=>e=.returned (.bool (decide (lo≤x) && decide (x≤hi)))∧w'=w:=by
 by_cases h1:lo≤x
 ·have d1:decide (lo≤x)=true:=decide_eq_true h1
  rw [d1,Bool.true_and]
  go_enter Tryz.func29,Tryz.ntmps29
  go_wp2
  go_ret
  exact ⟨rfl,rfl⟩
 ·have d1:decide (lo≤x)=false:=decide_eq_false h1
  rw [d1,Bool.false_and]
  go_enter Tryz.func29,Tryz.ntmps29
  go_wp2
  go_ret
  exact ⟨rfl,rfl⟩
set_option maxHeartbeats 400000 in
theorem iNumber (x:Int) (w:World):Calls Tryz.prog 82 #[.int .i64 x] w fun e w'=>e=.returned (.bool (decide (0≤x) && decide (x≤7)))∧w'=w:=by
 have C:=hide fun v=>iWithin x 0 7 v
 go_enter Tryz.func82,Tryz.ntmps82
 go_wp2_with fail
 refine (uh C _).mono ?_
 rintro e w2 ⟨rfl,hw⟩
 replace hw:=hw.symm
 subst hw
 go_wp2
 go_ret
 exact ⟨rfl,rfl⟩
set_option maxHeartbeats 400000 in
theorem sNumber (x:Int) (w:World):Calls Tryz.prog 97 #[.int .i64 x] w fun e w'=>e=.returned (.bool (decide (0≤x) && decide (x≤7)))∧w'=w:=by
 have C:=hide fun v=>sWithin x 0 7 v
 go_enter Tryz.func97,Tryz.ntmps97
 go_wp2_with fail
 refine (uh C _).mono ?_
 rintro e w2 ⟨rfl,hw⟩
 replace hw:=hw.symm
 subst hw
 go_wp2
 go_ret
 exact ⟨rfl,rfl⟩
theorem in7 {x:Int} (h:0≤x∧x≤7):(decide (0≤x) && decide (x≤7))=true:=by simp;omega
theorem out7 {x:Int} (h:¬ (0≤x∧x≤7)):(decide (0≤x) && decide (x≤7))=false:=by simp;omega
theorem empty_of {t:ByteArray} (h:t.size=0):t=⟨#[]⟩:=by
 apply ByteArray.ext
 exact Array.eq_empty_of_size_eq_zero h
theorem nonempty_of {t:ByteArray} (h:t.size≠0):t.toList.isEmpty=false:=by
 rw [ByteArray.toList_eq]
 cases hq:t.data.toList with
 | nil=>exact absurd (by have:=congrArg List.length hq;simpa using this) h
 | cons a l=>rfl
def sentL:Int→List ByteArray→List (Value × Value)
 | _,[]=>[]
 | a,t :: S=>(.int .i64 a,.agg #[.string t]) :: sentL ((a+1) % 8) S
theorem sentL_len (a:Int) (S:List ByteArray):(sentL a S).length=S.length:=by
 induction S generalizing a with
 | nil=>rfl
 | cons t S ih=>simp [sentL,ih]
theorem sentL_snoc (a:Int) (S:List ByteArray) (t:ByteArray) (ha:0≤a∧a≤7):sentL a (S ++ [t])=sentL a S ++ [(.int .i64 ((a+S.length) % 8),.agg #[.string t])]:=by
 induction S generalizing a with
 | nil =>
  simp [sentL]
  omega
 | cons u S ih =>
  show (_ :: sentL _ (S ++ [t]))=_
  rw [ih ((a+1) % 8) (by omega)]
  simp [sentL]
  omega
def findP (k:Int):List (Value × Value)→Nat→Option (Option (Nat × Value))
 | [],_=>some none
 | (x,v) :: ps,i =>
  match Instr.sameNow (.int .i64) (.int .i64 k) x with
  | some true=>some (some (i,v))
  | some false=>findP k ps (i+1)
  | none=>none
theorem find_pairs (k:Int) (es:List MapEntry) (i:Nat):Instr.findNow (.int .i64) (.int .i64 k) es i=findP k (es.map fun e=>(e.key,e.val)) i:=by
 induction es generalizing i with
 | nil=>rfl
 | cons e es ih =>
  show (match Instr.sameNow (.int .i64) (.int .i64 k) e.key with | some true=>_ | some false=>_ | none=>_)=_
  simp only [List.map_cons,findP]
  rw [ih]
theorem find_no (k a:Int) (S:List ByteArray) (i:Nat) (_ha:0≤a∧a≤7) (hk:k=(a+S.length) % 8) (hS:S.length≤7):∀ (T:List ByteArray) (d:Nat),T.length+d=S.length→findP k (sentL ((a+d) % 8) T) i=some none:=by
 intro T
 induction T generalizing i with
 | nil=>intro d _;rfl
 | cons t T ih =>
  intro d hd
  rw [List.length_cons] at hd
  have hne:¬ (k=(a+d) % 8):=by omega
  simp only [sentL,findP,Instr.sameNow]
  rw [show (k == (a+(d:Int)) % 8)=false from beq_eq_false_iff_ne.2 hne]
  have:=ih (i+1) (d+1) (by omega)
  rw [show ((a+((d+1:Nat):Int)) % 8)=((a+(d:Int)) % 8+1) % 8 by omega] at this
  exact this
theorem find_at (a:Int) (ha:0≤a∧a≤7):∀ (S:List ByteArray) (j i:Nat) (hj:j<S.length),S.length≤8→findP ((a+j) % 8) (sentL a S) i=some (some (i+j,.agg #[.string S[j]])):=by
 intro S j
 induction j generalizing a S with
 | zero =>
  intro i hj _
  cases S with
  | nil=>simp at hj
  | cons t S =>
   simp only [sentL,findP,Instr.sameNow]
   rw [show ((a+((0:Nat):Int)) % 8 == a)=true from beq_iff_eq.2 (by omega)]
   rfl
 | succ j ih =>
  intro i hj h8
  cases S with
  | nil=>simp at hj
  | cons t S =>
   rw [List.length_cons] at hj h8
   simp only [sentL,findP,Instr.sameNow]
   rw [show ((a+((j+1:Nat):Int)) % 8 == a)=false from beq_eq_false_iff_ne.2 (by omega)]
   have:=ih ((a+1) % 8) (by omega) S (i+1) (by omega) (by omega)
   rw [show (((a+1) % 8+(j:Int)) % 8)=((a+((j+1:Nat):Int)) % 8) by omega] at this
   rw [show i+(j+1)=i+1+j by omega]
   exact this
def MapH (w:World) (M:Nat) (a:Int) (S:List ByteArray):Prop:=∃ es c,w.heap[M]?=some (.map es c)∧es.toList.map (fun e=>(e.key,e.val))=sentL a S
def putB (w:World) (M:Nat) (o:Obj):World:={ w with heap:=w.heap.setIfInBounds M o }
theorem putB_at {w:World} {M:Nat} {o o':Obj} (h:w.heap[M]?=some o'):(putB w M o).heap[M]?=some o:=by
 have:=(Array.getElem?_eq_some_iff.1 h).1
 simp [putB,this]
theorem putB_other (w:World) (M k:Nat) (o:Obj) (h:k≠M):(putB w M o).heap[k]?=w.heap[k]?:=by
 simp only [putB]
 rw [Array.getElem?_setIfInBounds,if_neg (fun e=>h e.symm)]
theorem putB_size (w:World) (M:Nat) (o:Obj):(putB w M o).heap.size=w.heap.size:=by simp [putB]
theorem putB_below {n:Nat} {w w':World} {M:Nat} (h:Below n w w') (hM:n≤M) (o:Obj):Below n w (putB w' M o) :=
 ⟨h.os,h.tape,h.output,by rw [putB_size];exact h.size,fun b hb=>(putB_other _ _ _ _ (by omega)).trans (h.block b hb)⟩
theorem MapH.len {w:World} {M:Nat} {a:Int} {S:List ByteArray} (h:MapH w M a S) (ty:TypeId):(Builtin.len_ #[102] ty #[.map (some M)]).run Tryz.prog w=.ok (.int .i64 (S.length:Int)) w:=by
 obtain ⟨es,c,h1,h2⟩:=h
 have hs:es.size=S.length:=by rw [← sentL_len a S,← h2];simp
 unfold Builtin.len_
 simp [run_underlying Tryz.underlying102,MapKept.run_getObj_map h1,Result.andThen,hs]
 rfl
theorem MapH.put {w:World} {M:Nat} {a:Int} {S:List ByteArray} (h:MapH w M a S) (ha:0≤a∧a≤7) (hS:S.length≤7) (t:ByteArray) :
  ∃ o,(Instr.mapUpdate 102 (.map (some M)) (.int .i64 ((a+S.length) % 8)) (.agg #[.string t])).run Tryz.prog w=.ok () (putB w M o)∧MapH (putB w M o) M a (S ++ [t]):=by
 obtain ⟨es,c,h1,h2⟩:=h
 have hf:Instr.findNow (.int .i64) (.int .i64 ((a+S.length) % 8)) es.toList 0=some none:=by
  rw [find_pairs,h2]
  have:=find_no ((a+S.length) % 8) a S 0 ha rfl hS S 0 (by omega)
  rw [show (a+((0:Nat):Int)) % 8=a by omega] at this
  exact this
 refine ⟨.map (es.push { key:=.int .i64 ((a+S.length) % 8),val:=.agg #[.string t],born:=c }) (c+1),?_,_,_,putB_at h1,?_⟩
 ·unfold Instr.mapUpdate
  simp only [Sem.run_bind,run_underlying Tryz.underlying102,MapKept.run_getObj_map h1,MapKept.run_checkKey Tryz.underlying2 (d:=.int .i64) (k:=.int .i64 ((a+S.length) % 8)) (by trivial),MapKept.run_findKey Tryz.underlying2 hf,MapKept.run_setObj_map _ h1,Result.andThen]
  rfl
 ·rw [sentL_snoc a S t ha,← h2]
  simp
theorem MapH.look {w:World} {M:Nat} {a:Int} {S:List ByteArray} (h:MapH w M a S) (ha:0≤a∧a≤7) (hS:S.length≤8) (j:Nat) (hj:j<S.length) :
  (Instr.lookup 102 (.map (some M)) (.int .i64 ((a+j) % 8)) false).run Tryz.prog w=.ok (.agg #[.string S[j]]) w:=by
 obtain ⟨es,c,h1,h2⟩:=h
 have hf:Instr.findNow (.int .i64) (.int .i64 ((a+j) % 8)) es.toList 0=some (some (0+j,.agg #[.string S[j]])):=by
  rw [find_pairs,h2]
  exact find_at a ha S j 0 hj hS
 unfold Instr.lookup
 simp only [Sem.run_bind,Sem.run_pure,run_underlying Tryz.underlying102,MapKept.run_getObj_map h1,MapKept.run_checkKey Tryz.underlying2 (d:=.int .i64) (k:=.int .i64 ((a+j) % 8)) (by trivial),MapKept.run_findKey Tryz.underlying2 hf,Result.andThen]
 rfl
theorem MapH.del {w:World} {M:Nat} {a:Int} {t:ByteArray} {S:List ByteArray} (h:MapH w M a (t :: S)) (ty:TypeId) :
  ∃ o,(Builtin.delete_ #[102,2] ty #[.map (some M),.int .i64 a]).run Tryz.prog w=.ok (.tuple #[]) (putB w M o)∧MapH (putB w M o) M ((a+1) % 8) S:=by
 obtain ⟨es,c,h1,h2⟩:=h
 have hf:Instr.findNow (.int .i64) (.int .i64 a) es.toList 0=some (some (0,.agg #[.string t])):=by
  rw [find_pairs,h2]
  simp only [sentL,findP,Instr.sameNow]
  rw [show (a == a)=true from beq_self_eq_true _]
  rfl
 refine ⟨.map (es.eraseIdxIfInBounds 0) c,?_,_,_,putB_at h1,?_⟩
 ·unfold Builtin.delete_
  simp [run_underlying Tryz.underlying102,MapKept.run_getObj_map h1,MapKept.run_checkKey Tryz.underlying2 (d:=.int .i64) (k:=.int .i64 a) (by trivial),MapKept.run_findKey Tryz.underlying2 hf,MapKept.run_setObj_map _ h1,Result.andThen,putB]
 ·obtain ⟨l⟩:=es
  cases l with
  | nil=>simp [sentL] at h2
  | cons e l =>
   simp [sentL] at h2
   simp [Array.eraseIdxIfInBounds]
   exact h2.2
theorem MapH.clear {w:World} {M:Nat} {a:Int} {S:List ByteArray} (h:MapH w M a S) (a':Int) (ty:TypeId) :
  ∃ o,(Builtin.clear_ #[102] ty #[.map (some M)]).run Tryz.prog w=.ok (.tuple #[]) (putB w M o)∧MapH (putB w M o) M a' []:=by
 obtain ⟨es,c,h1,h2⟩:=h
 refine ⟨.map #[] c,?_,_,_,putB_at h1,rfl⟩
 unfold Builtin.clear_
 simp [run_underlying Tryz.underlying102,MapKept.run_getObj_map h1,MapKept.run_setObj_map _ h1,Result.andThen,putB]
theorem MapH.other {w w':World} {M:Nat} {a:Int} {S:List ByteArray} (h:MapH w M a S) (hw:w'.heap[M]?=w.heap[M]?):MapH w' M a S:=by
 obtain ⟨es,c,h1,h2⟩:=h
 exact ⟨es,c,hw.trans h1,h2⟩
theorem MapH.lt {w:World} {M:Nat} {a:Int} {S:List ByteArray} (h:MapH w M a S):M<w.heap.size:=by
 obtain ⟨es,c,h1,h2⟩:=h
 exact (Array.getElem?_eq_some_iff.1 h1).1
theorem MapH.new (w:World) (a:Int):MapH (w.alloc (.map #[] 0)) w.heap.size a []:=⟨_,_,heap_alloc_new w _,rfl⟩
def ArgT (w:World) (v:Value) (L:List ByteArray):Prop :=
 (∃ a cap,v=.slice a L.length cap)∧∀ i (hi:i<L.length),∃ b o cap,v=.slice (some ⟨b,o,none⟩) L.length cap∧b<w.heap.size∧w.cell? ⟨b,o+i,none⟩=some (.string L[i])∧L[i].size≤maxLen
theorem ArgT.below {w w':World} {v:Value} {L:List ByteArray} (h:ArgT w v L) (hb:Below w.heap.size w w'):ArgT w' v L :=
 ⟨h.1,fun i hi=>by
  obtain ⟨b,o,cap,h1,h2,h3,h4⟩:=h.2 i hi
  exact ⟨b,o,cap,h1,Nat.lt_of_lt_of_le h2 hb.size,(hb.cell (p:=⟨b,o+i,none⟩) h2).trans h3,h4⟩⟩
set_option maxHeartbeats 2000000 in
theorem szTs (v:Value) (L:List ByteArray) (k:Nat) (w:World) (hk:k≤1048576) (hn:L.length≤maxLen) (h:ArgT w v L) :
  Calls Tryz.prog 9 #[v,.int .i64 k] w fun e w'=>∃ z:Int,e=.returned (.int .i64 z)∧(z=-1∨(L.length≤1048576∧∃ m:Nat,z=(m:Int)∧m≤1048576))∧Below w.heap.size w w':=by
 unfold maxLen at hn
 obtain ⟨va,vc,rfl⟩:=h.1
 have HA:=hide h
 clear h
 obtain ⟨n,hnn⟩:∃ n,L.length=n:=⟨_,rfl⟩
 rw [hnn] at hn ⊢
 by_cases h1:n≤k
 ·have d1:¬ ((k:Int) - (n:Int)<0):=by omega
  go_enter Tryz.func9,Tryz.ntmps9
  go_wp2_with fail
  have hst:(k:Int) - (n:Int)=((k - n:Nat):Int):=by omega
  have HST:=hide hst
  clear hst
  go_loopw [1,5] (fun x y wr=>∃ (m i:Nat),m≤1048576∧i≤n∧x=.int .i64 m∧y=.int .i64 i∧Below w.heap.size w wr) (fun _ y _=>n - (intOf y).toNat)
  case atStart=>exact ⟨k - n,0,by omega,Nat.zero_le _,by rw [uh HST],rfl,Below.refl _ _⟩
  case round =>
   obtain ⟨m,i,hm,hi,rfl,rfl,hb⟩:=hrel
   have hbs:=hb.size
   by_cases hlt:i<n
   ·have e1:(i:Int)<(n:Int):=by omega
    obtain ⟨b,o,cap,hvf,hbl,k0,hsz⟩:=(uh HA).2 i (by omega)
    have hvf':va=some ⟨b,o,none⟩:=by
     simp only [Value.slice.injEq] at hvf
     exact hvf.1
    subst hvf'
    generalize hO:L[i]'(by omega)=dt at *
    unfold maxLen at hsz
    have c0:=(hb.cell (p:=⟨b,o+i,none⟩) hbl).trans k0
    clear k0 hvf hO HST
    have HB:=hide hb
    clear hb HA
    by_cases hd:dt.size≤m
    ·have e2:¬ ((m:Int) - (dt.size:Int)<0):=by omega
     have HE:Hid ((m:Int) - (dt.size:Int)=((m - dt.size:Nat):Int)):=hide (by omega)
     go_wp2
     go_roundw
     case rel=>exact ⟨m - dt.size,i+1,by omega,by omega,by rw [uh HE],by go_num,uh HB⟩
     case measure=>simp [intOf];omega
    ·have e2:(m:Int) - (dt.size:Int)<0:=by omega
     go_wp2
     go_ret
     exact ⟨-1,rfl,Or.inl rfl,uh HB⟩
   ·have e1:¬ ((i:Int)<(n:Int)):=by omega
    go_wp2
    go_ret
    exact ⟨_,rfl,Or.inr ⟨by omega,m,rfl,hm⟩,hb⟩
 ·have d1:(k:Int) - (n:Int)<0:=by omega
  go_enter Tryz.func9,Tryz.ntmps9
  go_wp2
  go_ret
  exact ⟨-1,rfl,Or.inl rfl,Below.refl _ _⟩
theorem set_oneT (cur':Array Value) (L:List Value) (i:Nat) (A:Value) (hi:i<cur'.size) (h1:L[i]?=some A) (ha:∀ j,j<i→cur'[j]?=L[j]?):∀ j,j<i+1→(cur'.setIfInBounds i A)[j]?=L[j]?:=by
 intro j hj
 rw [Array.getElem?_setIfInBounds]
 by_cases e1:i=j
 ·rw [if_pos e1,if_pos hi,← e1,h1]
 ·rw [if_neg e1]
  exact ha j (by omega)
set_option maxHeartbeats 2000000 in
theorem toTs (v:Value) (L:List ByteArray) (w:World) (hn:L.length≤1048576) (h:ArgT w v L) :
  Calls Tryz.prog 10 #[v] w fun e w'=>∃ u,e=.returned u∧HoldsT w' u L∧(∀ q,u.ownBlock=some q→w.heap.size≤q)∧Below w.heap.size w w':=by
 obtain ⟨i0,hi0,hz0,hz1,hz2⟩:=sinfo
 obtain ⟨va,vc,rfl⟩:=h.1
 have HA:=hide h
 clear h
 obtain ⟨n,hnn⟩:∃ n,L.length=n:=⟨_,rfl⟩
 rw [hnn] at hn ⊢
 go_enter Tryz.func10,Tryz.ntmps10
 go_wp2_with (first
  | (at_make;refine wpList_make_full w rfl _ _ 23 rfl w.heap.size 9 i0 _ 1 Tryz.underlying23 hi0 hz0 hz1 .i64 .i64 _ _ n rfl rfl rfl rfl (by rw [hz2];omega) (by unfold maxLen;omega) (Nat.le_refl _) ?_;rintro w1 ho1 hg1;have HO1:=hide ho1;have HG1:=hide hg1;clear ho1 hg1))
 have hb1:Below w.heap.size w w1:=(Below.refl _ _).grown (uh HG1) (Nat.le_refl _) (fun k hk=>by cases hk)
 obtain ⟨cur,hc1,hc2⟩:∃ cur,w1.heap[w.heap.size]?=some (.cells cur 9)∧cur.size=n:=by
  rcases (uh HO1).2 with ⟨k,_⟩ | ⟨g',cap,cur,k1,_,k3,_,_,k6,_⟩
  ·cases k
  ·simp only [Value.slice.injEq,Option.some.injEq,Addr.mk.injEq,true_and,and_true] at k1
   obtain ⟨rfl,rfl⟩:=k1
   exact ⟨cur,k3,by omega⟩
 have HC1:=hide hc1
 have HS:=hide (And.intro hc2 hb1)
 clear HO1 HG1 hc1 hc2 hb1
 go_loopw [4] (fun y wr=>∃ (i:Nat),i≤n∧y=.int .i64 i∧(∃ cur',wr.heap[w.heap.size]?=some (.cells cur' 9)∧cur'.size=n∧∀ j,j<i→cur'[j]?=(scells L)[j]?)∧Below w.heap.size w wr) (fun y _=>n - (intOf y).toNat)
 case atStart=>exact ⟨0,Nat.zero_le _,rfl,⟨cur,uh HC1,(uh HS).1,fun j hj=>by omega⟩,(uh HS).2⟩
 case round =>
  obtain ⟨i,hi,rfl,⟨cur',hg',hs',ha'⟩,hb⟩:=hrel
  have hbs:=hb.size
  clear HC1 HS
  have hgl:w.heap.size<wr.heap.size:=(Array.getElem?_eq_some_iff.1 hg').1
  by_cases hlt:i<n
  ·have e1:(i:Int)<(n:Int):=by omega
   obtain ⟨b,o,cap,hvf,hbl,k0,hsz⟩:=(uh HA).2 i (by omega)
   have hvf':va=some ⟨b,o,none⟩:=by
    simp only [Value.slice.injEq] at hvf
    exact hvf.1
   subst hvf'
   have hget:=scells_get L i (L[i]'(by omega)) (List.getElem?_eq_getElem (by omega))
   generalize hO:L[i]'(by omega)=dt at *
   have c0:=(hb.cell (p:=⟨b,o+i,none⟩) hbl).trans k0
   obtain ⟨y0,hy0⟩:∃ y,wr.cell? ⟨w.heap.size,i,none⟩=some y:=⟨cur'[i]'(by omega),by rw [cell_of_row _ _ _ _ _ _ hg',Array.getElem?_eq_getElem (by omega)]⟩
   have f0:wr.frozen? ⟨w.heap.size,i,none⟩=false:=frz hg' _
   have HGET:=hide hget
   have HG':=hide hg'
   have HA':=hide ha'
   have HB:=hide hb
   have HI:Hid (i<cur'.size):=hide (by omega)
   clear k0 hvf hO hget hg' ha' hb HA
   go_wp2
   go_roundw
   case rel =>
    refine ⟨i+1,by omega,by go_num,⟨_,heap_setCell_same _ _ i _ _ _ (uh HG'),by simp [hs'],?_⟩,(uh HB).setCell (p:=⟨w.heap.size,i,none⟩) (Nat.le_refl _) _⟩
    exact set_oneT cur' _ i _ (uh HI) (uh HGET) (uh HA')
   case measure=>simp [intOf];omega
  ·have e:i=n:=by omega
   subst e
   have d1:¬ ((i:Int)<(i:Int)):=by omega
   have HH:=hide (And.intro hg' ha')
   clear hg' ha'
   go_wp2
   go_ret
   refine ⟨_,rfl,Or.inr ⟨w.heap.size,i,cur',by rw [hnn];rfl,(uh HH).1,by rw [hnn];omega,by rw [hnn];exact (uh HH).2⟩,?_,hb⟩
   intro q hq
   cases hq
   exact Nat.le_refl _
structure Lp where
 wi:Int
 vs:Int
 va:Int
 vr:Int
 ak:Bool
def lpC (p:Lp) (v:Value):Array Value:=#[.int .i64 p.wi,.int .i64 p.vs,.int .i64 p.va,.int .i64 p.vr,v,.bool p.ak]
theorem row6l {w:World} {B:Nat} {x0 x1 x2 x3 x4 x5:Value} {T:TypeId} (h:w.heap[B]?=some (.cells #[x0,x1,x2,x3,x4,x5] T)) :
  w.cell? ⟨B,0,none⟩=some x0∧w.cell? ⟨B,1,none⟩=some x1∧w.cell? ⟨B,2,none⟩=some x2∧w.cell? ⟨B,3,none⟩=some x3∧w.cell? ⟨B,4,none⟩=some x4∧w.cell? ⟨B,5,none⟩=some x5 :=
 ⟨by rw [cell_of_row _ _ 0 _ _ (0,0) h];rfl,by rw [cell_of_row _ _ 1 _ _ (0,0) h];rfl,by rw [cell_of_row _ _ 2 _ _ (0,0) h];rfl,by rw [cell_of_row _ _ 3 _ _ (0,0) h];rfl,by rw [cell_of_row _ _ 4 _ _ (0,0) h];rfl,by rw [cell_of_row _ _ 5 _ _ (0,0) h];rfl⟩
theorem new2l (w:World) (a b:Obj):((w.alloc a).alloc b).heap[w.heap.size]?=some a∧((w.alloc a).alloc b).heap[w.heap.size+1]?=some b∧Below w.heap.size w ((w.alloc a).alloc b)∧((w.alloc a).alloc b).heap.size=w.heap.size+2:=by
 have hs:(w.alloc a).heap.size=w.heap.size+1:=by simp
 refine ⟨(Below.heap_alloc _ _ _ (by rw [hs];omega)).trans (heap_alloc_new w a),by rw [← hs];exact heap_alloc_new _ _,((Below.refl _ _).alloc (Nat.le_refl _) _).alloc (by rw [hs];omega) _,by simp⟩
theorem new3l (w:World) (a b c:Obj):(((w.alloc a).alloc b).alloc c).heap[w.heap.size]?=some a∧(((w.alloc a).alloc b).alloc c).heap[w.heap.size+1]?=some b∧(((w.alloc a).alloc b).alloc c).heap[w.heap.size+1+1]?=some c∧Below w.heap.size w (((w.alloc a).alloc b).alloc c)∧(((w.alloc a).alloc b).alloc c).heap.size=w.heap.size+3:=by
 obtain ⟨h1,h2,h3,h4⟩:=new2l w a b
 refine ⟨(Below.heap_alloc _ _ _ (by rw [h4];omega)).trans h1,(Below.heap_alloc _ _ _ (by rw [h4];omega)).trans h2,by rw [show w.heap.size+1+1=((w.alloc a).alloc b).heap.size by rw [h4]];exact heap_alloc_new _ _,h3.alloc (by rw [h4];omega) _,by simp⟩
theorem frz6l {w:World} {B:Nat} {x0 x1 x2 x3 x4 x5:Value} {T:TypeId} (h:w.heap[B]?=some (.cells #[x0,x1,x2,x3,x4,x5] T)) :
  w.frozen? ⟨B,0,none⟩=false∧w.frozen? ⟨B,1,none⟩=false∧w.frozen? ⟨B,2,none⟩=false∧w.frozen? ⟨B,3,none⟩=false∧w.frozen? ⟨B,4,none⟩=false∧w.frozen? ⟨B,5,none⟩=false :=
 ⟨frz h _,frz h _,frz h _,frz h _,frz h _,frz h _⟩
theorem set6_lp {W:World} {E:Nat} {z0 z1 z2 z3 z4 z5:Value} {T:TypeId} (h:W.heap[E]?=some (.cells #[z0,z1,z2,z3,z4,z5] T)) (x0 x1 x2 x3 x4 x5:Value) :
  ((((((W.setCell ⟨E,0,none⟩ x0).setCell ⟨E,1,none⟩ x1).setCell ⟨E,2,none⟩ x2).setCell ⟨E,3,none⟩ x3).setCell ⟨E,4,none⟩ x4).setCell ⟨E,5,none⟩ x5).heap[E]?=some (.cells #[x0,x1,x2,x3,x4,x5] T) :=
 heap_setCell_same _ _ 5 _ _ x5 (heap_setCell_same _ _ 4 _ _ x4 (heap_setCell_same _ _ 3 _ _ x3 (heap_setCell_same _ _ 2 _ _ x2 (heap_setCell_same _ _ 1 _ _ x1 (heap_setCell_same _ _ 0 _ _ x0 h)))))
theorem set6_lb {n:Nat} {w W:World} {E:Nat} (h:Below n w W) (hE:n≤E) (x0 x1 x2 x3 x4 x5:Value) :
  Below n w ((((((W.setCell ⟨E,0,none⟩ x0).setCell ⟨E,1,none⟩ x1).setCell ⟨E,2,none⟩ x2).setCell ⟨E,3,none⟩ x3).setCell ⟨E,4,none⟩ x4).setCell ⟨E,5,none⟩ x5) :=
 (((((h.setCell (p:=⟨E,0,none⟩) hE _).setCell (p:=⟨E,1,none⟩) hE _).setCell (p:=⟨E,2,none⟩) hE _).setCell (p:=⟨E,3,none⟩) hE _).setCell (p:=⟨E,4,none⟩) hE _).setCell (p:=⟨E,5,none⟩) hE _
theorem HoldsT.set {w:World} {v:Value} {L:List ByteArray} (h:HoldsT w v L) {a:Addr} (hne:∀ g,v.ownBlock=some g→g≠a.block) (x:Value):HoldsT (w.setCell a x) v L:=by
 rcases h with ⟨ad,cp,e,e0⟩ | ⟨g,cp,cur,e,q1,q2⟩
 ·exact Or.inl ⟨ad,cp,e,e0⟩
 ·exact Or.inr ⟨g,cp,cur,e,(heap_setCell_other _ _ _ _ (hne g (by rw [e];rfl))).trans q1,q2⟩
theorem infoL:(Tryz.prog.info? 54).map (·.size)=some 6:=by kernel_rfl
theorem loadL {W:World} {E:Nat} {cs:Array Value} (h:W.heap[E]?=some (.cells cs 54)) (hs:cs.size=6:=by rfl):(loadVar 54 ⟨E,0,none⟩).run Tryz.prog W=.ok (.agg cs) W :=
 run_loadVar_row (P:=Tryz.prog) _ _ 54 54 cs (0,0) _ h Tryz.underlying54 rfl (by rw [hs];exact infoL)
def lpZero:Lp:=⟨0,0,0,0,false⟩
def winOk (x:Int):Bool:=decide (1≤x) && decide (x≤7)
def lpNew (x:Int):Lp:=if winOk x=true then ⟨x,0,0,0,false⟩ else lpZero
set_option maxHeartbeats 400000 in
theorem iWin (x:Int) (w:World):Calls Tryz.prog 25 #[.int .i64 x] w fun e w'=>e=.returned (.bool (winOk x))∧w'=w:=by
 have C:=hide fun v=>iWithin x 1 7 v
 unfold winOk
 go_enter Tryz.func25,Tryz.ntmps25
 go_wp2_with fail
 refine (uh C _).mono ?_
 rintro e w2 ⟨rfl,hw⟩
 replace hw:=hw.symm
 subst hw
 go_wp2
 go_ret
 exact ⟨rfl,rfl⟩
theorem sWin (x:Int) (w:World):Calls Tryz.prog 29 #[.int .i64 x,.int .i64 1,.int .i64 7] w fun e w'=>e=.returned (.bool (winOk x))∧w'=w:=sWithin x 1 7 w
set_option maxHeartbeats 1000000 in
theorem implLpNew (x:Int) (w:World):Calls Tryz.prog 37 #[.int .i64 x] w fun e w'=>e=.returned (.agg (lpC (lpNew x) (.slice none 0 0)))∧Below w.heap.size w w':=by
 have C:=hide fun v=>iWin x v
 unfold lpNew lpC
 cases hk:winOk x
 ·rw [hk] at C
  rw [if_neg (by decide)]
  unfold lpZero
  dsimp only
  clear hk
  go_enter Tryz.func37,Tryz.ntmps37
  go_wp2_with fail
  refine (uh C _).mono ?_
  rintro e w2 ⟨rfl,hw⟩
  replace hw:=hw.symm
  subst hw
  go_wp2
  refine bodyPost_ret (v:=.agg #[.int .i64 0,.int .i64 0,.int .i64 0,.int .i64 0,.slice none 0 0,.bool false]) (by simp [results,Tryz.results37,go_sem]) rfl ⟨rfl,?_⟩
  exact (Below.refl _ _).alloc (Nat.le_refl _) _
 ·rw [hk] at C
  rw [if_pos rfl]
  dsimp only
  clear hk
  go_enter Tryz.func37,Tryz.ntmps37
  go_wp2_with fail
  refine (uh C _).mono ?_
  rintro e w2 ⟨rfl,hw⟩
  replace hw:=hw.symm
  subst hw
  go_wp2
  refine bodyPost_ret (v:=.agg #[.int .i64 x,.int .i64 0,.int .i64 0,.int .i64 0,.slice none 0 0,.bool false]) (by simp [results,Tryz.results37,go_sem]) rfl ⟨rfl,?_⟩
  exact (Below.refl _ _).alloc (Nat.le_refl _) _
set_option maxHeartbeats 1000000 in
theorem specLpNew (x:Int) (w:World):Calls Tryz.prog 30 #[.int .i64 x] w fun e w'=>e=.returned (.agg (lpC (lpNew x) (.slice none 0 0)))∧Below w.heap.size w w':=by
 have C:=hide fun v=>sWin x v
 unfold lpNew lpC
 cases hk:winOk x
 ·rw [hk] at C
  rw [if_neg (by decide)]
  unfold lpZero
  dsimp only
  clear hk
  go_enter Tryz.func30,Tryz.ntmps30
  go_wp2_with fail
  refine (uh C _).mono ?_
  rintro e w2 ⟨rfl,hw⟩
  replace hw:=hw.symm
  subst hw
  go_wp2
  refine bodyPost_ret (v:=.agg #[.int .i64 0,.int .i64 0,.int .i64 0,.int .i64 0,.slice none 0 0,.bool false]) (by simp [results,Tryz.results30,go_sem]) rfl ⟨rfl,?_⟩
  exact (Below.refl _ _).alloc (Nat.le_refl _) _
 ·rw [hk] at C
  rw [if_pos rfl]
  dsimp only
  clear hk
  go_enter Tryz.func30,Tryz.ntmps30
  go_wp2_with fail
  refine (uh C _).mono ?_
  rintro e w2 ⟨rfl,hw⟩
  replace hw:=hw.symm
  subst hw
  go_wp2
  refine bodyPost_ret (v:=.agg #[.int .i64 x,.int .i64 0,.int .i64 0,.int .i64 0,.slice none 0 0,.bool false]) (by simp [results,Tryz.results30,go_sem]) rfl ⟨rfl,?_⟩
  exact (Below.refl _ _).alloc (Nat.le_refl _) _
def numOk (x:Int):Bool:=decide (0≤x) && decide (x≤7)
def qOk (L:List ByteArray):Bool:=decide (L.length≤20) && L.all fun t=>decide (t.size≤200)
def far (n a:Int):Int:=(n - a) % 8
def lpOk (p:Lp) (L:List ByteArray):Bool:=winOk p.wi && (numOk p.vs && (numOk p.va && (numOk p.vr && (qOk L && (decide (far p.vs p.va≤p.wi) && decide (far p.vs p.va≤L.length))))))
theorem numOk_iff {x:Int} (h:numOk x=true):0≤x∧x≤7:=by simpa [numOk] using h
theorem winOk_iff {x:Int} (h:winOk x=true):1≤x∧x≤7:=by simpa [winOk] using h
theorem all_take {L:List ByteArray} {i:Nat} (hi:i<L.length):((L.take (i+1)).all fun t=>decide (t.size≤200))=(((L.take i).all fun t=>decide (t.size≤200)) && decide (L[i].size≤200)):=by
 rw [List.take_succ_eq_append_getElem hi,List.all_append]
 simp
theorem all_not {L:List ByteArray} {i:Nat} (hi:i<L.length) (h:¬ L[i].size≤200):(L.all fun t=>decide (t.size≤200))=false:=by
 rw [← Bool.not_eq_true]
 intro h2
 exact h (of_decide_eq_true (List.all_eq_true.1 h2 _ (List.getElem_mem hi)))
def HoldsS (w:World) (v:Value) (L:List ByteArray):Prop :=
 (∃ ad cp,v=.slice ad 0 cp∧L=[])∨∃ g o cp cur,v=.slice (some ⟨g,o,none⟩) L.length cp∧w.heap[g]?=some (.cells cur 9)∧∀ j (hj:j<L.length),cur[o+j]?=some (.string L[j])
theorem HoldsT.s {w:World} {v:Value} {L:List ByteArray} (h:HoldsT w v L):HoldsS w v L:=by
 rcases h with ⟨ad,cp,h1,h2⟩ | ⟨g,cp,cur,h1,h2,h3,h4⟩
 ·exact Or.inl ⟨ad,cp,h1,h2⟩
 ·refine Or.inr ⟨g,0,cp,cur,h1,h2,fun j hj=>?_⟩
  rw [Nat.zero_add,h4 j hj]
  exact scells_get L j _ (List.getElem?_eq_getElem hj)
theorem HoldsS.form {w:World} {v:Value} {L:List ByteArray} (h:HoldsS w v L):∃ ad cp,v=.slice ad L.length cp:=by
 rcases h with ⟨ad,cp,h1,h2⟩ | ⟨g,o,cp,cur,h1,_⟩
 ·exact ⟨ad,cp,by rw [h1,h2];rfl⟩
 ·exact ⟨_,_,h1⟩
theorem HoldsS.below {w w':World} {v:Value} {L:List ByteArray} (h:HoldsS w v L) (hb:Below w.heap.size w w'):HoldsS w' v L:=by
 rcases h with ⟨ad,cp,h1,h2⟩ | ⟨g,o,cp,cur,h1,h2,h3⟩
 ·exact Or.inl ⟨ad,cp,h1,h2⟩
 ·exact Or.inr ⟨g,o,cp,cur,h1,(hb.block g (Array.getElem?_eq_some_iff.1 h2).1).trans h2,h3⟩
theorem HoldsS.get {w:World} {v:Value} {L:List ByteArray} (h:HoldsS w v L) (i:Nat) (hi:i<L.length):∃ g o cp,v=.slice (some ⟨g,o,none⟩) L.length cp∧g<w.heap.size∧w.cell? ⟨g,o+i,none⟩=some (.string L[i]):=by
 rcases h with ⟨_,_,_,e⟩ | ⟨g,o,cp,cur,e,q1,q2⟩
 ·rw [e] at hi;exact absurd hi (Nat.not_lt_zero _)
 ·exact ⟨g,o,cp,e,(Array.getElem?_eq_some_iff.1 q1).1,by rw [cell_of_row _ _ _ _ _ _ q1];exact q2 i hi⟩
theorem HoldsS.other {w w':World} {v:Value} {L:List ByteArray} (h:HoldsS w v L) (hw:∀ g cur,v.ownBlock=some g→w.heap[g]?=some (.cells cur 9)→w'.heap[g]?=w.heap[g]?):HoldsS w' v L:=by
 rcases h with ⟨ad,cp,h1,h2⟩ | ⟨g,o,cp,cur,h1,h2,h3⟩
 ·exact Or.inl ⟨ad,cp,h1,h2⟩
 ·exact Or.inr ⟨g,o,cp,cur,h1,(hw g cur (by rw [h1];rfl) h2).trans h2,h3⟩
theorem holdsS_nil (w:World) (ad:Option Addr) (cp:Nat):HoldsS w (.slice ad 0 cp) []:=Or.inl ⟨ad,cp,rfl,rfl⟩
set_option maxHeartbeats 2000000 in
theorem iQueue (v:Value) (L:List ByteArray) (w:World) (hl:L.length≤1048576) (h:HoldsS w v L):Calls Tryz.prog 24 #[v] w fun e w'=>e=.returned (.bool (qOk L))∧Below w.heap.size w w':=by
 obtain ⟨x,y,rfl⟩:=h.form
 have HA:=hide h
 clear h
 obtain ⟨n,hn⟩:∃ n,L.length=n:=⟨_,rfl⟩
 unfold qOk
 rw [hn] at hl ⊢
 by_cases h20:n≤20
 ·rw [show decide (n≤20)=true from decide_eq_true h20,Bool.true_and]
  have d1:¬ ((20:Int)<(n:Int)):=by omega
  obtain ⟨R,hR⟩:∃ R,(L.all fun t=>decide (t.size≤200))=R:=⟨_,rfl⟩
  rw [hR]
  have HR:=hide hR
  clear hR
  go_enter Tryz.func24,Tryz.ntmps24
  go_wp2_with fail
  go_loopw [10] (fun y wr=>∃ (i:Nat),i≤n∧y=.int .i64 i∧wr=w∧((L.take i).all fun t=>decide (t.size≤200))=true) (fun y _=>n - (intOf y).toNat)
  case atStart=>exact ⟨0,Nat.zero_le _,rfl,rfl,rfl⟩
  case round =>
   obtain ⟨i,hi,rfl,rfl,ha⟩:=hrel
   by_cases hlt:i<n
   ·have d2:(i:Int)<(n:Int):=by omega
    have d0:(0:Int)≤(i:Int):=by omega
    obtain ⟨g,o,cp,e1,hg,k1⟩:=(uh HA).get i (by omega)
    cases e1
    by_cases h2:(L[i]'(by omega)).size≤200
    ·have hT:=all_take (L:=L) (i:=i) (by omega)
     rw [ha,decide_eq_true h2,Bool.true_and] at hT
     have HT:=hide hT
     have d3:¬ ((200:Int)<((L[i]'(by omega)).size:Int)):=by omega
     generalize L[i]'(by omega)=t at *
     clear ha hT
     go_wp2
     go_roundw
     case rel=>exact ⟨i+1,by omega,by go_num,trivial,uh HT⟩
     case measure=>simp [intOf];omega
    ·have hT:=all_not (L:=L) (i:=i) (by omega) h2
     have hR:=(uh HR).symm.trans hT
     subst hR
     have d3:(200:Int)<((L[i]'(by omega)).size:Int):=by omega
     generalize L[i]'(by omega)=t at *
     clear ha hT
     go_wp2
     go_ret
     exact ⟨rfl,Below.refl _ _⟩
   ·have e:i=n:=by omega
    subst e
    rw [List.take_of_length_le (by omega)] at ha
    have hR:=(uh HR).symm.trans ha
    subst hR
    have d1:¬ ((i:Int)<(i:Int)):=by omega
    clear ha
    go_wp2
    go_ret
    exact ⟨rfl,Below.refl _ _⟩
 ·rw [show decide (n≤20)=false from decide_eq_false h20,Bool.false_and]
  have d1:(20:Int)<(n:Int):=by omega
  go_enter Tryz.func24,Tryz.ntmps24
  go_wp2
  go_ret
  exact ⟨rfl,Below.refl _ _⟩
theorem far_lt (n a:Int):0≤far n a∧far n a<8:=by unfold far;omega
set_option maxHeartbeats 400000 in
theorem iFar (n a:Int) (hn:0≤n∧n≤7) (ha:0≤a∧a≤7) (w:World):Calls Tryz.prog 83 #[.int .i64 n,.int .i64 a] w fun e w'=>e=.returned (.int .i64 (far n a))∧w'=w:=by
 unfold far
 go_enter Tryz.func83,Tryz.ntmps83
 go_wp2
 go_ret
 exact ⟨ret_int (by omega),rfl⟩
set_option maxHeartbeats 4000000 in
theorem iLpRight (p:Lp) (x:Option Addr) (y:Nat) (L:List ByteArray) (w:World) (hl:L.length≤1048576) (h:HoldsS w (.slice x L.length y) L) :
  Calls Tryz.prog 58 #[.agg (lpC p (.slice x L.length y))] w fun e w'=>e=.returned (.bool (lpOk p L))∧Below w.heap.size w w':=by
 have C1:=hide fun v=>iWin p.wi v
 have C2:=hide fun v=>iNumber p.vs v
 have C3:=hide fun v=>iNumber p.va v
 have C4:=hide fun v=>iNumber p.vr v
 have C5:=hide fun W (hb:Below w.heap.size w W)=>iQueue _ L W hl (h.below hb)
 have hA:=hide ((Below.refl w.heap.size w).alloc (Nat.le_refl _) (.cells (lpC p (.slice x L.length y)) 54))
 have hN:=hide (heap_alloc_new w (.cells (lpC p (.slice x L.length y)) 54))
 obtain ⟨R,hR⟩:∃ R,lpOk p L=R:=⟨_,rfl⟩
 rw [hR]
 unfold lpOk at hR
 have n2:(decide (0≤p.vs) && decide (p.vs≤7))=numOk p.vs:=rfl
 have n3:(decide (0≤p.va) && decide (p.va≤7))=numOk p.va:=rfl
 have n4:(decide (0≤p.vr) && decide (p.vr≤7))=numOk p.vr:=rfl
 rw [n2] at C2
 rw [n3] at C3
 rw [n4] at C4
 obtain ⟨wi,vs,va,vr,ak⟩:=p
 unfold lpC at hA hN ⊢
 dsimp only at *
 clear h n2 n3 n4
 generalize hn:L.length=n at *
 cases b1:winOk wi
 ·rw [b1] at hR
  simp only [Bool.false_and] at hR
  subst hR
  rw [b1] at C1
  go_enter Tryz.func58,Tryz.ntmps58
  go_wp2_with fail
  refine (uh C1 _).mono ?_
  rintro e w2 ⟨rfl,hw⟩
  replace hw:=hw.symm
  subst hw
  go_wp2
  go_ret
  exact ⟨rfl,uh hA⟩
 cases b2:numOk vs
 ·rw [b1,b2] at hR
  simp only [Bool.true_and,Bool.false_and] at hR
  subst hR
  rw [b1] at C1
  rw [b2] at C2
  go_enter Tryz.func58,Tryz.ntmps58
  go_wp2_with fail
  refine (uh C1 _).mono ?_
  rintro e w2 ⟨rfl,hw⟩
  replace hw:=hw.symm
  subst hw
  go_wp2_with fail
  refine (uh C2 _).mono ?_
  rintro e w2 ⟨rfl,hw⟩
  replace hw:=hw.symm
  subst hw
  go_wp2
  go_ret
  exact ⟨rfl,uh hA⟩
 cases b3:numOk va
 ·rw [b1,b2,b3] at hR
  simp only [Bool.true_and,Bool.false_and] at hR
  subst hR
  rw [b1] at C1
  rw [b2] at C2
  rw [b3] at C3
  go_enter Tryz.func58,Tryz.ntmps58
  go_wp2_with fail
  refine (uh C1 _).mono ?_
  rintro e w2 ⟨rfl,hw⟩
  replace hw:=hw.symm
  subst hw
  go_wp2_with fail
  refine (uh C2 _).mono ?_
  rintro e w2 ⟨rfl,hw⟩
  replace hw:=hw.symm
  subst hw
  go_wp2_with fail
  refine (uh C3 _).mono ?_
  rintro e w2 ⟨rfl,hw⟩
  replace hw:=hw.symm
  subst hw
  go_wp2
  go_ret
  exact ⟨rfl,uh hA⟩
 cases b4:numOk vr
 ·rw [b1,b2,b3,b4] at hR
  simp only [Bool.true_and,Bool.false_and] at hR
  subst hR
  rw [b1] at C1
  rw [b2] at C2
  rw [b3] at C3
  rw [b4] at C4
  go_enter Tryz.func58,Tryz.ntmps58
  go_wp2_with fail
  refine (uh C1 _).mono ?_
  rintro e w2 ⟨rfl,hw⟩
  replace hw:=hw.symm
  subst hw
  go_wp2_with fail
  refine (uh C2 _).mono ?_
  rintro e w2 ⟨rfl,hw⟩
  replace hw:=hw.symm
  subst hw
  go_wp2_with fail
  refine (uh C3 _).mono ?_
  rintro e w2 ⟨rfl,hw⟩
  replace hw:=hw.symm
  subst hw
  go_wp2_with fail
  refine (uh C4 _).mono ?_
  rintro e w2 ⟨rfl,hw⟩
  replace hw:=hw.symm
  subst hw
  go_wp2
  go_ret
  exact ⟨rfl,uh hA⟩
 cases b5:qOk L
 ·rw [b1,b2,b3,b4,b5] at hR
  simp only [Bool.true_and,Bool.false_and] at hR
  subst hR
  rw [b1] at C1
  rw [b2] at C2
  rw [b3] at C3
  rw [b4] at C4
  rw [b5] at C5
  go_enter Tryz.func58,Tryz.ntmps58
  go_wp2_with fail
  refine (uh C1 _).mono ?_
  rintro e w2 ⟨rfl,hw⟩
  replace hw:=hw.symm
  subst hw
  go_wp2_with fail
  refine (uh C2 _).mono ?_
  rintro e w2 ⟨rfl,hw⟩
  replace hw:=hw.symm
  subst hw
  go_wp2_with fail
  refine (uh C3 _).mono ?_
  rintro e w2 ⟨rfl,hw⟩
  replace hw:=hw.symm
  subst hw
  go_wp2_with fail
  refine (uh C4 _).mono ?_
  rintro e w2 ⟨rfl,hw⟩
  replace hw:=hw.symm
  subst hw
  go_wp2_with fail
  refine (uh C5 _ (uh hA)).mono ?_
  rintro e w2 ⟨rfl,hb⟩
  go_wp2
  go_ret
  exact ⟨rfl,(uh hA).trans (hb.mono (uh hA).size)⟩
 rw [b1,b2,b3,b4,b5] at hR
 simp only [Bool.true_and] at hR
 rw [b1] at C1
 rw [b2] at C2
 rw [b3] at C3
 rw [b4] at C4
 rw [b5] at C5
 have CF:=hide fun v=>iFar vs va (numOk_iff b2) (numOk_iff b3) v
 obtain ⟨f0,f8⟩:=far_lt vs va
 have w1:=winOk_iff b1
 generalize far vs va=f at *
 go_enter Tryz.func58,Tryz.ntmps58
 go_wp2_with fail
 refine (uh C1 _).mono ?_
 rintro e w2 ⟨rfl,hw⟩
 replace hw:=hw.symm
 subst hw
 go_wp2_with fail
 refine (uh C2 _).mono ?_
 rintro e w2 ⟨rfl,hw⟩
 replace hw:=hw.symm
 subst hw
 go_wp2_with fail
 refine (uh C3 _).mono ?_
 rintro e w2 ⟨rfl,hw⟩
 replace hw:=hw.symm
 subst hw
 go_wp2_with fail
 refine (uh C4 _).mono ?_
 rintro e w2 ⟨rfl,hw⟩
 replace hw:=hw.symm
 subst hw
 go_wp2_with fail
 refine (uh C5 _ (uh hA)).mono ?_
 rintro e w2 ⟨rfl,hb⟩
 have k0:=(hb.block w.heap.size (by simp)).trans (uh hN)
 obtain ⟨a0,a1,a2,a3,a4,a5⟩:=row6l k0
 have HB:=hide ((uh hA).trans (hb.mono (uh hA).size))
 clear k0 hb hA hN C1 C2 C3 C4 C5
 go_wp2_with fail
 go_quiet (first
  | (go_at_call 83;exact Calls.quiet_of_same (uh CF _)))
 all_goals
  go_wp2
  all_goals
   go_ret
   refine ⟨ret_bool ?_,(uh HB).os,(uh HB).tape,(uh HB).output,(uh HB).size,(uh HB).block⟩
   rw [← hR,Bool.eq_iff_iff]
   simp
   omega
end Go.Proofs.YtkcghhkkepndnaaGreatDoor
