/- DkP DkQ LaidTp -/
import Derived.Test.YtjebigodbnefiaaGreatDoorS41
set_option maxHeartbeats 16000000
set_option maxRecDepth 100000
namespace Go.Proofs.YtjebigodbnefiaaGreatDoor
open Go.RowKit Go.Proofs.Tryz
def iz (base D:Nat) (k:Ks) (l u:ByteArray) (k':Ks):Prop:=∀ (W:World) (ca:List Value),DkM base W D k ca→Calls prog 41 #[.pointer (some ⟨D,0,none⟩),.string l] W fun e W'=>e=.returned (.string u)∧∃ cb,DkM base W' D k' cb∧Od D W W'
inductive Runs (base D:Nat):Ks→List (ByteArray × ByteArray)→Prop
 | nil (k:Ks):Runs base D k []
 | cons {k k':Ks} {l u:ByteArray} {L:List (ByteArray × ByteArray)} (h:iz base D k l u k') (ha:k'.at'=k.at') (hl:(10:UInt8) ∉ l.data.toList) (hu:u.size≤20000) (hr:Runs base D ⟨k'.d,k'.s,k'.now,k'.at' + 1⟩ L):Runs base D k ((l,u) :: L)
def ly (L:List (ByteArray × ByteArray)):ByteArray:=co (bK (L.map fun x=>x.1.data.toList))
def dX (L:List (ByteArray × ByteArray)):ByteArray:=co (bK (L.map fun x=>x.2.data.toList))
theorem oU (l u:ByteArray) (L:List (ByteArray × ByteArray)):ly ((l,u) :: L)=co (l.data.toList ++ 10 :: (ly L).data.toList):=by
 unfold ly;rw [List.map_cons,kv,kN]
theorem tH (L:List (ByteArray × ByteArray)) (l u:ByteArray):dX (L ++ [(l,u)])=dX L ++ u ++ ⟨#[10]⟩:=by
 unfold dX;rw [List.map_append];show co (bK (_ ++ [u.data.toList]))=_
 rw [kw];apply ByteArray.ext
 apply Array.toList_inj.1
 rw [kN,ByteArray.data_append,ByteArray.data_append,Array.toList_append,Array.toList_append,kN]
theorem mc {base D:Nat}:∀ {L:List (ByteArray × ByteArray)} {k:Ks},Runs base D k L→∀ i,(dX (L.take i)).size≤20001*i:=by
 intro L k h;induction h with
 | nil k=>intro i;rw [List.take_nil];exact Nat.zero_le _
 | @cons k k' l u L h ha hl hu hr ih =>
  intro i;cases i with
  | zero=>exact zD _
  | succ i =>
   have:=ih i
   have e:(dX ((l,u) :: L.take i)).size=u.size+1+(dX (L.take i)).size:=by
    unfold dX;rw [List.map_cons,kv,eJ,eJ,List.length_append,List.length_cons,Array.length_toList];show u.size+_=_
    omega
   rw [List.take_succ_cons,e];omega
theorem zV (l r:List UInt8):(co (l ++ 10 :: r)).toList.isEmpty=false:=by
 have e:(co (l ++ 10 :: r)).toList=l ++ 10 :: r:=by rw [ByteArray.toList_eq];exact kN _
 rw [e];cases l<;>rfl
theorem oW:∀ (L:List (ByteArray × ByteArray)) (i:Nat),(ly (L.drop i)).size≤(ly L).size
 | [],i=>by rw [List.drop_nil];exact zD _
 | _ :: _,0=>zD _
 | (l,u) :: L,i+1=>by
  refine zE (oW L i) ?_;rw [oU,eJ,List.length_append,List.length_cons,oR (ly L)];omega
section
variable {b D:Nat} {t:ByteArray} {q q':World}
theorem Bl.od (h:Bl b t q) (ho:Od D q q') {c:Array Value} (hD:q.heap[D]?=some (.cells c 74)):Bl b t q':=by
 have key:∀ p,Lib.BuilderAtF 87 5 b b p (Lib.byteCells t.data.toList) q→Lib.BuilderAtF 87 5 b b p (Lib.byteCells t.data.toList) q':=by
  rintro p ⟨hB,v,hb,⟨h1,h2⟩,hne⟩;have st:∀ (g:Nat) (cs:Array Value) (T:TypeId) (fz:Nat × Nat),q.heap[g]?=some (.cells cs T fz)→74≠T→q'.heap[g]?=some (.cells cs T fz):=fun g cs T fz hg hT=>(ho.same g (ge.1 hg).1 (fun e=>by
   rw [e,hD] at hg;injection hg with hg;injection hg with _ hg;exact hT hg)).trans hg
  refine ⟨hB,v,st _ _ _ _ hb (by decide),⟨h1,h2.imp id ?_⟩,hne⟩;rintro ⟨g,cap,cur,fz,e1,e2,e3,e4⟩;exact ⟨g,cap,cur,fz,e1,e2,st _ _ _ _ e3 (by decide),e4⟩
 exact h.imp (key _) (key _)
theorem Bl.lt (h:Bl b t q):b<q.heap.size:=by
 rcases h with h | h
 ·exact h.lt
 ·exact h.lt
theorem Od.low {W:World} (h:Od D W q) {n:Nat} (hb:Below n q q') (hn:W.heap.size≤n):Od D W q' :=
 ⟨hb.os.trans h.os,hb.tape.trans h.tape,hb.output.trans h.output,zE h.size hb.size,fun g hg hD=>(hb.block g (by omega)).trans (h.same g hg hD)⟩
theorem DkM.others {base:Nat} {k:Ks} {ca:List Value} (h:DkM base q D k ca) (hb:Below b q q') (hbb:base≤b) (ho:Lib.OthersKept 5 (some b) q q') (hB:∃ c,q.heap[b]?=some (.cells c 87)):DkM base q' D k ca:=by
 obtain ⟨c,hB⟩:=hB;have st:∀ (g:Nat) (cs:Array Value) (T:TypeId),q.heap[g]?=some (.cells cs T)→87≠T→5≠T→q'.heap[g]?=some (.cells cs T):=fun g cs T hg hT hT2=>ho g _ hg (fun e=>fQ hB hg hT (Option.some.inj e)) fun c fz e=>by
  injection e with _ e;exact hT2 e.symm
 exact ⟨st _ _ _ h.row (by decide) (by decide),h.en.keep fun g _ hg=>(st g _ _ hg (by decide) (by decide)).trans hg.symm,h.bs,h.lo.step (hb.mono hbb),h.tb.step (hb.mono hbb)⟩
theorem Bl.row (h:Bl b t q):∃ c,q.heap[b]?=some (.cells c 87):=by
 rcases h with ⟨_,v,hb,_⟩ | ⟨_,v,hb,_⟩
 ·exact ⟨_,hb⟩
 ·exact ⟨_,hb⟩
theorem DkM.setA {base:Nat} {W:World} {k:Ks} {ca:List Value} (h:DkM base W D k ca) (n:Int):DkM base (W.setCell ⟨D,37,none⟩ (.int .i64 n)) D ⟨k.d,k.s,k.now,n⟩ ca∧Od D W (W.setCell ⟨D,37,none⟩ (.int .i64 n)):=by
 have r0:W.heap[D]?=some (.cells ((iP k.d ++ ca ++ [Value.int .i64 k.now]) ++ [Value.int .i64 k.at'] ++ ([]:List Value)).toArray 74):=by rw [h.row];simp
 have hl:(iP k.d ++ ca ++ [Value.int .i64 k.now]).length=37:=by simp [h.en.len]
 have r:=cH [Value.int .i64 k.at'] [Value.int .i64 n] (iP k.d ++ ca ++ [Value.int .i64 k.now]) [] W r0 rfl;rw [hl] at r;have f:=Fr.cells (B:=D) (.slice none 0 0) (.slice none 0 0) W (fun _ hg=>by cases hg) 37 [Value.int .i64 n];have hs:∀ g,g≠D→(W.setCells D 37 [Value.int .i64 n]).heap[g]?=W.heap[g]?:=fun g hg=>bu hg [Value.int .i64 n] 37 W
 have hb:Below base W (W.setCells D 37 [Value.int .i64 n]):=⟨f.os,f.tape,f.output,f.size,fun b hb=>hs b (by have:=h.bs;omega)⟩;have e:W.setCells D 37 [Value.int .i64 n]=W.setCell ⟨D,37,none⟩ (.int .i64 n):=rfl;rw [e] at r hs hb f;refine ⟨⟨?_,h.en.keep fun g _ hg=>hs g (fQ h.row hg (by decide)),h.bs,h.lo.step hb,h.tb.step hb⟩,f.os,f.tape,f.output,f.size,fun b _ hD=>hs b hD⟩;have r2:(W.setCell ⟨D,37,none⟩ (.int .i64 n)).heap[D]?=_:=r;rw [r2];simp
end
theorem Bn {base:Nat} {W:World} {D:Nat} {k:Ks} {ca:List Value} (h:DkM base W D k ca) (L:List (ByteArray × ByteArray)) (hr:Runs base D k L) (hs:(ly L).size≤8000) (ha:k.at'=0) (hl:L.length≤40) :
  Calls prog 24 #[.pointer (some ⟨D,0,none⟩),.string (ly L)] W fun e W'=>e=.returned (.string (dX L))∧Od D W W':=by
 have hDb:D<W.heap.size:=h.lt;have hbs:base≤W.heap.size:=by have:=h.bs;omega
 have HS:=aa (mc hr);have hbA:=(zC W.heap.size W).alloc (zD _) (.cells #[.pointer none,.slice none 0 0] 87);have H0:=aa (zA (h.below hbA) (zA (Od.of_below (D:=D) hbA) (Lib.IsBuilderF.of (Lib.fresh_isBuilder 87 5 W))));have HR:=aa (zA hr ha);clear h hbA hr ha;go_enter func24,ntmps24
 go_upto_region 2 with fail
 refine aI (fun z=>DkM base z D k ca∧Od D W z∧Bl W.heap.size ⟨#[]⟩ z) (uh H0) ?_;clear H0;intro q0 hq0;have H0:=aa hq0;clear hq0;obtain ⟨b,eb⟩:∃ b,b=W.heap.size:=⟨_,rfl⟩;rw [← eb] at hDb hbs H0 ⊢;have EB:=aa eb;clear eb;go_loopg [1] L.length (fun g y wr=>∃ (i:Nat) (k':Ks) (cb:List Value),y=.string (ly (L.drop i))∧i+g=L.length∧DkM base wr D k' cb∧k'.at'=(i:Int)∧Runs base D k' (L.drop i)∧Bl b (dX (L.take i)) wr∧Od D W wr)
 case atStart =>
  obtain ⟨k1,k2,k3⟩:=uh H0;exact ⟨0,k,ca,rfl,Nat.zero_add _,k1,(uh HR).2,(uh HR).1,k3,k2⟩
 case round =>
  obtain ⟨i,k',cb,rfl,hig,hk,hat,hrn,hbl,hod⟩:=hrel;by_cases hlt:i<L.length
  ·obtain ⟨l,u,el⟩:∃ l u,L[i]=(l,u):=⟨_,_,rfl⟩;have hdr:L.drop i=(l,u) :: L.drop (i+1):=by rw [List.drop_eq_getElem_cons hlt,el]
   have htk:L.take (i+1)=L.take i ++ [(l,u)]:=by rw [List.take_succ_eq_append_getElem hlt,el]
   have ho:=uh HS i;rw [hdr] at hrn;cases hrn with
   | cons hst hat' hln hu hrn2 =>
    rename_i k2
    have hin:=oU l u (L.drop (i+1));have hsz:(co (l.data.toList ++ 10 :: (ly (L.drop (i+1))).data.toList)).size≤8000:=by
     have:=oW L i
     rw [hdr,hin] at this;omega
    have hem:=zV l.data.toList (ly (L.drop (i+1))).data.toList;rw [hdr,hin];have CC:=aa (Bj (co (l.data.toList ++ 10 :: (ly (L.drop (i+1))).data.toList)) wr hsz hk.tb.get.2.1);rw [kN,AZ _ _ hln] at CC;generalize co (l.data.toList ++ 10 :: (ly (L.drop (i+1))).data.toList)=T at *;have HB:=aa (zA hk (zA hbl hod));have hi40:(i:Int)≠40:=by omega
    clear hk hbl hod H0 hsz hin;go_wp2_with fail
    refine (uh CC).mono ?_;rintro e w1 ⟨rfl,n,hw1⟩;have hb1:Below wr.heap.size wr w1:=by rw [hw1];exact aH (zC _ _) n
    have HB1:Hid (DkM base w1 D k' cb∧Bl b (dX (L.take i)) w1∧Od D W w1):=aa ⟨(uh HB).1.below hb1,(by rw [hw1];exact (uh HB).2.1),(uh HB).2.2.trans (Od.of_below hb1)⟩;clear hb1 hw1 CC HB;have kA:=(uh HB1).1.atC;rw [hat] at kA;have CT:=aa (hst w1 cb (uh HB1).1);go_wp2_with fail
    refine (uh CT).mono ?_;rintro e w2 ⟨rfl,cb2,hk2,ho2⟩;have HB2:Hid (DkM base w2 D k2 cb2∧Bl b (dX (L.take i)) w2∧Od D W w2):=aa ⟨hk2,(uh HB1).2.1.od ho2 (uh HB1).1.row,(uh HB1).2.2.trans ho2⟩;clear hk2 ho2 kA CT HB1;have CW:=aa (rG b (dX (L.take i)) u w2 (uh HB2).2.1 (by omega) (Nat.le_of_lt (uh HB2).2.1.lt));go_wp2_with fail
    refine (uh CW).mono ?_;rintro e w3 ⟨rfl,hbl3,hb3,ho3⟩;have HB3:Hid (DkM base w3 D k2 cb2∧Bl b (dX (L.take i) ++ u) w3∧Od D W w3):=aa ⟨(uh HB2).1.others hb3 hbs ho3 (uh HB2).2.1.row,hbl3,(uh HB2).2.2.low hb3 (Nat.le_of_eq (uh EB).symm)⟩;clear hbl3 hb3 ho3 CW HB2;have CW:=aa (rG b (dX (L.take i) ++ u) ⟨#[10]⟩ w3 (uh HB3).2.1 (by rw [ByteArray.size_append];show _+1≤_;omega) (Nat.le_of_lt (uh HB3).2.1.lt));go_wp2_with fail
    refine (uh CW).mono ?_;rintro e w4 ⟨rfl,hbl4,hb4,ho4⟩;have HB4:Hid (DkM base w4 D k2 cb2∧Bl b (dX (L.take i) ++ u ++ ⟨#[10]⟩) w4∧Od D W w4):=aa ⟨(uh HB3).1.others hb4 hbs ho4 (uh HB3).2.1.row,hbl4,(uh HB3).2.2.low hb4 (Nat.le_of_eq (uh EB).symm)⟩;clear hbl4 hb4 ho4 CW HB3;have kA:=(uh HB4).1.atC;rw [hat',hat] at kA;obtain ⟨hk5,ho5⟩:=(uh HB4).1.setA ((i:Int)+1);have HB5:=aa (zA hk5 (zA ((uh HB4).2.1.od ho5 (uh HB4).1.row) ((uh HB4).2.2.trans ho5)));clear hk5 ho5;have hfz:=aX (uh HB4).1.row 37;have hwr:IntKind.i64.wrap ((i:Int)+1)=(i:Int)+1:=by rw [IntKind.wrap_i64];omega
    go_wp2_with fail
    go_roundg (gk - 1)
    case measure=>omega
    case rel=>exact ⟨i+1,_,cb2,rfl,by omega,(uh HB5).1,by push_cast;rfl,(by rw [hat',hat] at hrn2;exact hrn2),(by rw [htk,tH];exact (uh HB5).2.1),(uh HB5).2.2⟩
  ·have ei:i=L.length:=by omega
   subst ei;rw [List.take_length] at hbl;have hdr:L.drop L.length=[]:=List.drop_length;rw [hdr];have hem:(ly []).toList.isEmpty=true:=by kernel_rfl
   have CS:=aa (wC b (dX L) wr hbl (Nat.le_of_lt hbl.lt));have HO:=aa hod;clear hk hbl hod H0;generalize ly []=T at *;go_wp2_with fail
   refine (uh CS).mono ?_;rintro e w1 ⟨rfl,hb1⟩;have H1:=aa ((uh HO).low hb1 (Nat.le_of_eq (uh EB).symm));clear hb1;go_wp2_with fail
   go_ret
   exact ⟨rfl,uh H1⟩
def A1:Ks:=⟨⟨false,0,false,false,false,⟨#[]⟩⟩,⟨eP 300 0 7 true true false,[],[],[]⟩,0,0⟩
structure DkT (w:World):Prop where
 pw:PwT w
 mx:MxT w
 er:ErT w
 u8:Lib.Utf8Tabs 2 3 w
 ev:EvT w
 nx:NxT w
 sp:SpT w
 et:Et w
theorem DkT.below {w w':World} (h:DkT w) (hb:Below w.heap.size w w'):DkT w' :=
 ⟨h.pw.below hb,h.mx.below hb,h.er.below hb,Utf8Tabs_below h.u8 hb,h.ev.below hb,h.nx.below hb,h.sp.below hb,h.et.below hb h.et.lt⟩
theorem DkT.lo {w w':World} (h:DkT w) (hb:Below w.heap.size w w'):Lo w.heap.size w':=⟨w,rfl,⟨h.ev,h.nx,h.sp,h.et⟩,hb⟩
theorem DkT.tb {w w':World} (h:DkT w) (hb:Below w.heap.size w w'):Tb w.heap.size w':=⟨w,rfl,⟨h.pw,h.mx,h.er,h.u8⟩,hb⟩
theorem rH (w:World) (base:Nat) (e:TypeId) (n:Nat):w.ownsRow base e n (.slice none 0 0) 0 []:=⟨by simp,Or.inl ⟨rfl,rfl⟩⟩
theorem wD {w w':World} {D:Nat} (h:DkT w) (hb:Below w.heap.size w w') (hD:w.heap.size≤D) (hr:w'.heap[D]?=some (.cells (iP ⟨false,0,false,false,false,⟨#[]⟩⟩ ++ (aA (eP 300 0 7 true true false) (.slice none 0 0) (.slice none 0 0)).toList ++ [Value.int .i64 0,Value.int .i64 0]).toArray 74)):DkM w.heap.size w' D A1 (aA (eP 300 0 7 true true false) (.slice none 0 0) (.slice none 0 0)).toList :=
 ⟨hr,⟨none,none,0,0,rfl,rH _ _ _ _,rH _ _ _ _,(fun g h=>by cases h),Nat.zero_le _,Nat.zero_le _⟩,hD,h.lo hb,h.tb hb⟩
theorem qU (p q:Addr) (w:World):CallsD prog 23 #[.pointer (some p),.pointer (some q)] .returning w fun e u' w'=>e=.returned (.tuple #[])∧u'=.returning∧w'=w:=by
 refine callsD_of_wpS func23 rfl fun c₀ cs hu=>?_
 apply wpS_seq
 apply wpS_region
 simp [wpOpsS,go_sem,recoverD,hu,ntmps23,Exit.thenS];refine wpS_cond (t:=false) (by simp [Act.eval,Array.replicate]) ?_;simp only [Bool.false_eq_true,if_false];refine wpS_of_wp (wp_skip ?_);cases c₀;simp_all [bodyPostS,results,results23]
theorem wT (w:World) (h:DkT w) (L:List (ByteArray × ByteArray)) (hr:∀ base D,Runs base D A1 L) (hs:(ly L).size≤8000) (hl:L.length≤40) :
  Calls prog 11 #[.string (ly L)] w fun e w'=>e=.returned (.agg #[.string (dX L),.int .i64 0,.int .i64 0])∧Below w.heap.size w w':=by
 have hmf:∀ (fn:Fn) (first cap:Array Value) (w:World),(Instr.makeFunc fn first cap).run prog w=.ok (.func fn first cap) w:=fun _ _ _ _=>rfl
 have d1:¬ (8000:Int)<((ly L).size:Int):=by omega
 have CN:=aa fun W=>uv W
 have HT:=aa h;clear h;have hb0:=(zC w.heap.size w).alloc (zD _) (.cells #[.string ⟨#[]⟩,.int .i64 0,.int .i64 0] 40);have hX0:=zF w (.cells #[.string ⟨#[]⟩,.int .i64 0,.int .i64 0] 40);have hsz0:w.heap.size<(w.alloc (.cells #[.string ⟨#[]⟩,.int .i64 0,.int .i64 0] 40)).heap.size:=(ge.1 hX0).1;go_enter_defers func11,ntmps11
 go_wp2_with fail
 generalize w.alloc (.cells #[.string ⟨#[]⟩,.int .i64 0,.int .i64 0] 40)=w0 at *;refine (uh CN w0).mono ?_;rintro e w1 ⟨D,rfl,hD,hrow,hb1⟩;have hbA:=(zC w1.heap.size w1).alloc (zD _) (.cells #[.pointer (some ⟨D,0,none⟩)] 65);have hlt1:D<w1.heap.size:=(ge.1 hrow).1;have hb2:Below w.heap.size w (w1.alloc (.cells #[.pointer (some ⟨D,0,none⟩)] 65)):=(hb0.trans (hb1.mono hb0.size)).trans (hbA.mono (by omega));have hrow2:=(hbA.block D hlt1).trans hrow;have hX2:=(hbA.block _ (Nat.lt_of_lt_of_le hsz0 hb1.size)).trans ((hb1.block _ hsz0).trans hX0);have hdk:=wD (uh HT) hb2 (by omega) hrow2;have CR:=aa (Bn hdk L (hr _ _) hs rfl hl);have hXD:w.heap.size<D:=Nat.lt_of_lt_of_le hsz0 hD;clear hdk hrow2 hrow hb1 hD hX0;go_wp2_with fail
 refine (uh CR).mono ?_;rintro e w2 ⟨rfl,ho2⟩;have hX3:=(ho2.same _ (by have:=(ge.1 hX2).1;exact this) (by omega)).trans hX2;have hb3:Below w.heap.size w w2:=⟨ho2.os.trans hb2.os,ho2.tape.trans hb2.tape,ho2.output.trans hb2.output,zE hb2.size ho2.size,fun g hg=>(ho2.same g (Nat.lt_of_lt_of_le hg hb2.size) (by omega)).trans (hb2.block g hg)⟩;clear ho2 hb2 hX2 hb0 CR hbA;have c0:w2.cell? ⟨w.heap.size,0,none⟩=some (.string ⟨#[]⟩):=by rw [cr hX3];rfl
 have c1:w2.cell? ⟨w.heap.size,1,none⟩=some (.int .i64 0):=by rw [cr hX3];rfl
 have c2:w2.cell? ⟨w.heap.size,2,none⟩=some (.int .i64 0):=by rw [cr hX3];rfl
 have f0:=aX hX3 0;have f1:=aX hX3 1;have f2:=aX hX3 2;go_wp2_with fail
 have hX4:=iw hX3 (.string (dX L)) (.int .i64 0) (.int .i64 0);have hb4:=eW hb3 (zD _) (.string (dX L)) (.int .i64 0) (.int .i64 0);clear c0 c1 c2 f0 f1 f2 hX3 hb3;refine leaves_cons (f:=23) (args:=#[.pointer (some ⟨w1.heap.size,0,none⟩),.pointer (some ⟨w.heap.size,0,none⟩)]) (by simp) (by simp [go_sem]) ?_;refine (qU _ _ _).mono ?_;rintro e u' w5 ⟨rfl,rfl,rfl⟩;have hv:(loadVar 40 ⟨w.heap.size,0,none⟩).run prog _=.ok (.agg #[.string (dX L),.int .i64 0,.int .i64 0]) _:=run_loadVar_row (P:=prog) _ _ 40 40 #[.string (dX L),.int .i64 0,.int .i64 0] (0,0) _ hX4 underlying40 rfl (by kernel_rfl);refine ⟨.agg #[.string (dX L),.int .i64 0,.int .i64 0],?_,rfl,hb4⟩;simp [results,results11,asAddr,hv]
end Go.Proofs.YtjebigodbnefiaaGreatDoor
namespace Go.Proofs.YtjebigodbnefiaaGreatDoor
open Go.Proofs.Tryz
open Go.ChangeShapes Go.WideShapes Go.ChangeAt Go.RowKit
theorem u8x:U8Extra prog Tryz.laysDec_ren:=⟨by kernel_rfl,by kernel_rfl,by kernel_rfl,by kernel_rfl,by kernel_rfl,by kernel_rfl,by kernel_rfl⟩
theorem wU:Rows.laid_unicode_utf8_first=Lib.firstData:=by kernel_rfl
theorem tI:(Rows.laid_unicode_utf8_acceptRanges:DataW Unit)=Lib.acceptData:=by kernel_rfl
theorem A2:(Rows.laid_internal_strconv_uint64pow10:DataW Unit)=Lib.tabData .u64 Lib.pow10Tab:=by kernel_rfl
def lf:List (String × DataW Unit):=Rows.fnTopRow.laid
def fJ : List (String × DataW Unit) := [("math/bits.deBruijn32tab", Rows.laid_math_bits_deBruijn32tab), ("math/bits.deBruijn64tab", Rows.laid_math_bits_deBruijn64tab), ("internal/strconv.uint64pow10", Rows.laid_internal_strconv_uint64pow10), ("unicode/utf8.acceptRanges", Rows.laid_unicode_utf8_acceptRanges), ("strconv.ErrRange", Rows.laid_strconv_ErrRange), ("strconv.ErrSyntax", Rows.laid_strconv_ErrSyntax), ("unicode.White_Space", Rows.laid_unicode_White_Space), ("strings.asciiSpace", Rows.laid_strings_asciiSpace), ("loop.example/g00351/impl.eventNames", Rows.laid_loop_example_g00351_impl_eventNames), ("loop.example/g00351/impl.nextStates", Rows.laid_loop_example_g00351_impl_nextStates), ("loop.example/g00351/impl.errNoLine", Rows.laid_loop_example_g00351_impl_errNoLine), ("loop.example/g00351/impl.errRefused", Rows.laid_loop_example_g00351_impl_errRefused), ("unicode/utf8.first", Rows.laid_unicode_utf8_first)]
theorem zW {W : World} (h : Lib.VarReads prog W "internal/strconv.uint64pow10" Rows.laid_internal_strconv_uint64pow10) : PwT W := by
 rw [A2] at h;obtain ⟨g,t,cs,fuel,p,hg,hty,hvar,hd⟩:=h;obtain rfl := Option.some.inj ((show prog.globalNamed "internal/strconv.uint64pow10" = some 6 by kernel_rfl).symm.trans hg)
 obtain rfl:=Option.some.inj ((show (prog.globals[6]?).map (·.type)=some 226 by kernel_rfl).symm.trans hty);unfold PwT Lib.TabIs;rw [hvar,← Lib.cells_of_tab underlying226 underlying193 (by kernel_rfl) (by kernel_rfl) hd]
theorem oY {P:Program} {w:World} {base fuel:Nat} {sp:Nat→Bool} {t:TypeId} {cs:List Value} {n:String} {d:DataW Unit} {p:List MemPlace} {ms:Array (String × TypeId)} (ht:P.underlying t=some (.interface ms))
  (h:DataW.trod (fun _=>()) P w base sp false fuel t cs=some (.iface n d,p)):∃ u v,cs=[.iface u v]:=by
 cases fuel with
 | zero=>simp [DataW.trod] at h
 | succ fuel =>
  unfold DataW.trod at h;rw [ht] at h;split at h<;>first | exact ⟨_,_,rfl⟩ | (simp at *;done) | cases h
theorem zX {W : World} {n : String} {d : DataW Unit} (h : Lib.VarReads prog W "loop.example/g00351/impl.errRefused" (.iface n d)) : ErT W := by
 obtain ⟨g,t,cs,fuel,p,hg,hty,hvar,hd⟩:=h;obtain rfl := Option.some.inj ((show prog.globalNamed "loop.example/g00351/impl.errRefused" = some 1 by kernel_rfl).symm.trans hg)
 obtain rfl:=Option.some.inj ((show (prog.globals[1]?).map (·.type)=some 91 by kernel_rfl).symm.trans hty);obtain ⟨u,v,hc⟩:=oY underlying91 hd;refine ⟨u,v,?_⟩;rw [World.var?_cell hg hvar 0,← Array.getElem?_toList,hc];rfl
theorem zY {W:World} (h:W.ShapedOpen prog):MxT W :=
 cell_of_shapedOpen_int (t:=3) (zero:=#[.int .i64 0]) (k:=.i64) h (by decide +kernel) (by kernel_rfl) rfl (by kernel_rfl) (by kernel_rfl) underlying3
theorem zZ {W:World} (hS:W.ShapedOpen prog) (hL:laidMetH prog lf W):DkT W:=by
 have h':laidMet prog fJ W∧handlesMet prog ke W:=hL;obtain ⟨hd,hh⟩:=h';have h2:laidMet prog [] W∧handlesMet prog ke W:=⟨⟨[],rfl,List.nodup_nil,fun _ _ h=>by cases h⟩,hh⟩;exact ⟨zW (Lib.laidMet.reads hd (.tail _ (.tail _ (.head _)))),zY hS,zX (Lib.laidMet.reads hd (.tail _ (.tail _ (.tail _ (.tail _ (.tail _ (.tail _ (.tail _ (.tail _ (.tail _ (.tail _ (.tail _ (.head _))))))))))))),utf8Tabs_of_reads { Tryz.laysDec with } u8x (wU ▸ Lib.laidMet.reads hd (.tail _ (.tail _ (.tail _ (.tail _ (.tail _ (.tail _ (.tail _ (.tail _ (.tail _ (.tail _ (.tail _ (.tail _ (.head _)))))))))))))) (tI ▸ Lib.laidMet.reads hd (.tail _ (.tail _ (.tail _ (.head _))))),
  tR (Lib.laidMet.reads hd (.tail _ (.tail _ (.tail _ (.tail _ (.tail _ (.tail _ (.tail _ (.tail _ (.head _)))))))))),tY (Lib.laidMet.reads hd (.tail _ (.tail _ (.tail _ (.tail _ (.tail _ (.tail _ (.tail _ (.tail _ (.tail _ (.head _))))))))))),t_ (Lib.laidMet.reads hd (.tail _ (.tail _ (.tail _ (.tail _ (.tail _ (.tail _ (.tail _ (.head _))))))))),vP (W:=W) h2⟩
noncomputable def jG (os:Os):World:=(np os).layVars prog fJ
theorem qV (os:Os):(jG os).os=os:=World.layVars_os _ _ _
theorem mW (os:Os):laidMet prog fJ (jG os):=by
 have e1:(fJ.filter fun x=>(fJ.map (·.1)).contains x.1)=fJ:=List.filter_eq_self.2 fun x hx=>List.contains_iff_mem.2 (List.mem_map.2 ⟨x,hx,rfl⟩)
 have e2:(fJ.filter fun x=>!(fJ.map (·.1)).contains x.1)=[]:=List.filter_eq_nil_iff.2 fun x hx=>by rw [List.contains_iff_mem.2 (List.mem_map.2 ⟨x,hx,rfl⟩)];simp
 exact laidMet_layVars (w0:=np os) (fJ.map (·.1)) [] (by rw [e1];rfl) (by rw [e1];kernel_rfl) (by rw [e1];kernel_rfl) (by rw [e2];exact LaidIn.none)
theorem pf (os:Os) (args:Array Value):laidMetH prog lf ((jG os).forCall (fun _ _=>0) ⟨#[],args,[]⟩).memory:=by
 refine laidMetH_of_parts ?_ (by kernel_rfl);have h:laidMet prog fJ ((jG os).forCall (fun _ _=>0) ⟨#[],args,[]⟩).memory:=(mW os).of_heap (by simp [World.memory,World.forCall,Input.heap]);exact h
end Go.Proofs.YtjebigodbnefiaaGreatDoor
