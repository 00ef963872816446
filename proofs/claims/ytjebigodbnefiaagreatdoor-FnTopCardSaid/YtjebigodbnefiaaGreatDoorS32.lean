/- LwEh MtM MtF MtG DkB -/
import Derived.Test.YtjebigodbnefiaaGreatDoorS30
import Derived.Test.YtjebigodbnefiaaGreatDoorS31
set_option maxHeartbeats 4000000
set_option maxRecDepth 100000
namespace Go.Proofs.YtjebigodbnefiaaGreatDoor
open Go.RowKit Go.Proofs.Tryz
section
variable {z:World} {N:Nat} {c:Array Value}
end
section
variable {w:World} {A:Nat} {ca:List Value} {x y:Int} {t:ByteArray} {o:EO} {bw lo1 hi1:Nat} {cw:Array Value} {bx lo2 hi2:Nat} {e:En} {F1 F2:List Op.Opt} {cl:List Value} {q q':World} {bg:Nat} {cg:Array Value}
end
structure Sd where
 e:En
 F1:List Op.Opt
 F2:List Op.Opt
 ln:List Op.Pk
def lnS (s:Sd) (l:List Op.Pk):Sd:=⟨s.e,s.F1,s.F2,l⟩
def au {α:Type} (f:α→α):Nat→α→α
 | 0,x=>x
 | n+1,x=>f (au f n x)
theorem jY {w w':World} {base:Nat} {e:TypeId} {size:Nat} {v:Value} {n:Nat} {xs:List Value} (h:w.ownsRow base e size v n xs) (hb:∀ (g:Nat) (cur:Array Value),w.heap[g]?=some (.cells cur e)→w'.heap[g]?=w.heap[g]?):w'.ownsRow base e size v n xs :=
 ⟨h.1,h.2.imp id fun ⟨g,cap,cur,h1,h2,h3,h4⟩=>⟨g,cap,cur,h1,h2,(hb g cur h3).trans h3,h4⟩⟩
theorem dV {w:World} {b b':Nat} {e:TypeId} {size:Nat} {v:Value} {n:Nat} {xs:List Value} (h:w.ownsRow b e size v n xs) (hb:b'≤b):w.ownsRow b' e size v n xs :=
 ⟨h.1,h.2.imp id fun ⟨g,cap,cur,h1,h2,h3⟩=>⟨g,cap,cur,h1,zE hb h2,h3⟩⟩
def EnM (base:Nat) (W:World) (ca:List Value) (s:Sd):Prop:=∃ (x1 x2:Option Addr) (y1 y2:Nat),ca=(aA s.e (.slice x1 s.F1.length y1) (.slice x2 s.F2.length y2)).toList∧W.ownsRow base 27 2 (.slice x1 s.F1.length y1) s.F1.length (aj s.F1)∧W.ownsRow base 27 2 (.slice x2 s.F2.length y2) s.F2.length (aj s.F2)∧Ap (.slice x1 s.F1.length y1) (.slice x2 s.F2.length y2)∧s.F1.length≤100000∧s.F2.length≤100000
theorem EnM.len {base:Nat} {W:World} {ca:List Value} {s:Sd} (h:EnM base W ca s):ca.length=30:=by
 obtain ⟨x1,x2,y1,y2,rfl,_⟩:=h;rfl
theorem EnM.one {base:Nat} {W:World} {ca:List Value} {s:Sd} (h:EnM base W ca s):ca.toArray.all (·.oneCell')=true:=by
 obtain ⟨x1,x2,y1,y2,rfl,_⟩:=h;exact nN _ _ _ _ _ _ _
theorem EnM.keep {base:Nat} {W W':World} {ca:List Value} {s:Sd} (h:EnM base W ca s) (k:∀ (g:Nat) (cur:Array Value),W.heap[g]?=some (.cells cur 27)→W'.heap[g]?=W.heap[g]?):EnM base W' ca s:=by
 obtain ⟨x1,x2,y1,y2,rfl,h1,h2,l⟩:=h;exact ⟨x1,x2,y1,y2,rfl,jY h1 k,jY h2 k,l⟩
theorem EnM.ln {base:Nat} {W:World} {ca:List Value} {s:Sd} (h:EnM base W ca s) (l:List Op.Pk):EnM base W ca (lnS s l):=h
def kK (ca:List Value) (g:Nat):Prop:=(∃ v,ca[17]?=some v∧v.ownBlock=some g)∨∃ v,ca[18]?=some v∧v.ownBlock=some g
def Nb9 (W:World) (ca ca':List Value):Prop:=∀ g,kK ca' g→kK ca g∨W.heap.size≤g
theorem Nb9.refl (W:World) (ca:List Value):Nb9 W ca ca:=fun _ h=>Or.inl h
structure Sl (base:Nat) (T:TypeId) (W:World) (B:Nat) (X Z:List Value) (s:Sd) (ca:List Value) (v:Value):Prop where
 wr:Wr base T W B (X ++ ca) Z v s.ln
 en:EnM base W ca s
 nO:T≠27
section
variable {base:Nat} {T:TypeId} {W W':World} {B:Nat} {X Z ca:List Value} {s:Sd} {v v':Value}
theorem Sl.row (h:Sl base T W B X Z s ca v):W.heap[B]?=some (.cells (X ++ ca ++ ([v] ++ Z)).toArray T):=by
 rw [← List.append_assoc];exact h.wr.row
theorem Sl.keepO (h:Sl base T W B X Z s ca v) (f:Fr B v v' W W'):∀ (g:Nat) (cur:Array Value),W.heap[g]?=some (.cells cur 27)→W'.heap[g]?=W.heap[g]?:=fun g cur hg=>by
 refine f.same g (ge.1 hg).1 (fun e=>?_) (fun e=>?_)
 ·rw [e,h.wr.row] at hg;injection hg with hg;injection hg with _ hg;exact h.nO hg
 ·obtain ⟨_,_,_,cur',h2⟩:=h.wr.ownB g e;rw [hg] at h2;injection h2 with h2;injection h2 with _ h2;exact absurd h2 (by decide)
theorem Sl.below (h:Sl base T W B X Z s ca v) (hb:Below W.heap.size W W'):Sl base T W' B X Z s ca v :=
 ⟨h.wr.below hb,h.en.keep (h.keepO (Fr.of_below (v:=v) (B:=B) hb)),h.nO⟩
theorem Sl.line (h:Sl base T W B X Z s ca v) {L:List Op.Pk} (f:Fr B v v' W W') (w:Wr base T W' B (X ++ ca) Z v' L):Sl base T W' B X Z (lnS s L) ca v' :=
 ⟨w,(h.en.keep (h.keepO f)).ln L,h.nO⟩
theorem Sl.setE (h:Sl base T W B X Z s ca v) {cb:List Value} {s':Sd} (he:EnM base W cb s') (hl:s'.ln=s.ln):Sl base T (W.setCells B X.length cb) B X Z s' cb v∧Fr B v v W (W.setCells B X.length cb):=by
 have f:=Fr.cells (B:=B) v v W (fun _ hg=>Or.inl hg) X.length cb;have r:=cH ca cb X ([v] ++ Z) W h.row (by rw [he.len,h.en.len]);refine ⟨⟨⟨by rw [r,← List.append_assoc],?_,by rw [hl];exact h.wr.le,zE h.wr.bs f.size,h.wr.nT⟩,he.keep (h.keepO f),h.nO⟩,f⟩;rw [hl];exact h.wr.hk.keep fun g cur hg _ _=>bu (h.wr.ownB g hg).1 cb _ W
end
def AnE (b:Nat) (W:World) (o:EO) (cl:List Value) (vs:Value):Prop:=∃ (x1 x2 a3 a4:Option Addr) (y1 y2 c3 c4:Nat),cl=(aC o.e (.slice x1 o.F1.length y1) (.slice x2 o.F2.length y2) (.slice a3 o.sn.length c3) (.slice a4 o.tl.length c4) o.cd).toList∧vs=.slice a3 o.sn.length c3∧W.ownsRow b 27 2 (.slice x1 o.F1.length y1) o.F1.length (aj o.F1)∧W.ownsRow b 27 2 (.slice x2 o.F2.length y2) o.F2.length (aj o.F2)∧Ap (.slice x1 o.F1.length y1) (.slice x2 o.F2.length y2)∧HoldsP W vs o.sn
theorem AnE.len {b:Nat} {W:World} {o:EO} {cl:List Value} {vs:Value} (h:AnE b W o cl vs):cl.length=33:=by
 obtain ⟨x1,x2,a3,a4,y1,y2,c3,c4,rfl,_⟩:=h;kernel_rfl
theorem AnE.one {b:Nat} {W:World} {o:EO} {cl:List Value} {vs:Value} (h:AnE b W o cl vs):cl.toArray.all (·.oneCell')=true:=by
 obtain ⟨x1,x2,a3,a4,y1,y2,c3,c4,rfl,_⟩:=h;exact aG _ _ _ _ _ _ _ _ _ _ _ _ _ _
theorem AnE.cd {b:Nat} {W:World} {o:EO} {cl:List Value} {vs:Value} (h:AnE b W o cl vs):cl[32]?=some (.int .i64 o.cd)∧cl[30]?=some vs:=by
 obtain ⟨x1,x2,a3,a4,y1,y2,c3,c4,rfl,rfl,_⟩:=h;exact ⟨by kernel_rfl,by kernel_rfl⟩
theorem AnE.en {b:Nat} {W:World} {o:EO} {cl:List Value} {vs:Value} (h:AnE b W o cl vs) (hB:EoB o) (L:List Op.Pk) {base:Nat} (hb:base≤b):EnM base W (cl.take 30) ⟨o.e,o.F1,o.F2,L⟩:=by
 obtain ⟨x1,x2,a3,a4,y1,y2,c3,c4,rfl,rfl,h1,h2,ap,_⟩:=h;exact ⟨x1,x2,y1,y2,by kernel_rfl,dV h1 hb,dV h2 hb,ap,zE hB.l1 (by decide),zE hB.l2 (by decide)⟩
theorem AnE.form {b:Nat} {W:World} {o:EO} {cl:List Value} {vs:Value} (h:AnE b W o cl vs):∃ a c,vs=.slice a o.sn.length c:=by
 obtain ⟨x1,x2,a3,a4,y1,y2,c3,c4,rfl,rfl,_⟩:=h;exact ⟨_,_,rfl⟩
theorem AnE.hp {b:Nat} {W:World} {o:EO} {cl:List Value} {vs:Value} (h:AnE b W o cl vs):HoldsP W vs o.sn:=by
 obtain ⟨x1,x2,a3,a4,y1,y2,c3,c4,rfl,rfl,_,_,_,h⟩:=h;exact h
theorem AnE.of {W q:World} {o:EO} {r:Ending} (h:EvA W o r q):∃ cl vs,r=.returned (.agg cl.toArray)∧AnE W.heap.size q o cl vs∧(∀ g,vs.ownBlock=some g→W.heap.size≤g)∧Below W.heap.size W q:=by
 obtain ⟨v1,v2,vs,vt,e,o1,o2,os,ot,ap,lo⟩:=h;obtain ⟨a1,p1,e1⟩:=af o1;obtain ⟨a2,p2,e2⟩:=af o2;obtain ⟨a3,p3,e3⟩:=af os;obtain ⟨a4,p4,e4⟩:=af ot;subst e1 e2 e3 e4;exact ⟨_,_,by rw [e,Array.toArray_toList],⟨a1,a2,a3,a4,p1,p2,p3,p4,rfl,rfl,o1,o2,ap,HoldsP.own os⟩,fun g hg=>(os.lt g hg).1,lo⟩
section
variable {base:Nat} {T:TypeId} {W0:World} {B E:Nat} {X Z:List Value} {v:Value} {o:EO} {cl:List Value} {vs:Value} {y:World}
end
theorem tJ {W:World} {g i:Nat} {L:List Op.Pk} {cur:Array Value} (h:W.heap[g]?=some (.cells cur 32)) (hc:∀ j,j<L.length*3→cur[j]?=(ae L)[j]?) (hi:i<L.length):W.cell? ⟨g,i*3,none⟩=some (.int .i64 L[i].code)∧W.cell? ⟨g,i*3+1,none⟩=some (.int .i64 L[i].id)∧W.cell? ⟨g,i*3+2,none⟩=some (.string L[i].data):=by
 have key:∀ (L:List Op.Pk) (i:Nat) (hi:i<L.length),(ae L)[i*3]?=some (.int .i64 L[i].code)∧(ae L)[i*3+1]?=some (.int .i64 L[i].id)∧(ae L)[i*3+2]?=some (.string L[i].data):=by
  intro L;induction L with
  | nil=>intro i hi;simp at hi
  | cons p L ih =>
   intro i hi;have e:ae (p :: L)=.int .i64 p.code :: .int .i64 p.id :: .string p.data :: ae L:=rfl;cases i with
   | zero=>exact ⟨rfl,rfl,rfl⟩
   | succ i =>
    have:=ih i (by simpa using hi)
    rw [e,show (i+1)*3=i*3+1+1+1 by omega];exact this
 obtain ⟨k0,k1,k2⟩:=key L i hi;exact ⟨by rw [cr h,hc _ (by omega)];exact k0,by rw [cr h,hc _ (by omega)];exact k1,by rw [cr h,hc _ (by omega)];exact k2⟩
def Lo (base:Nat) (W:World):Prop:=∃ w0:World,w0.heap.size=base∧(EvT w0∧NxT w0∧SpT w0∧Et w0)∧Below base w0 W
theorem Lo.tabs {base:Nat} {W:World} (h:Lo base W):EvT W∧NxT W∧SpT W∧Et W:=by
 obtain ⟨w0,rfl,⟨h1,h2,h3,h4⟩,hb⟩:=h;exact ⟨h1.below hb,h2.below hb,h3.below hb,h4.below hb h4.lt⟩
theorem Lo.step {base:Nat} {W W':World} (h:Lo base W) (hb:Below base W W'):Lo base W':=by
 obtain ⟨w0,e,ht,h0⟩:=h;exact ⟨w0,e,ht,h0.trans hb⟩
theorem Fr.low {B base:Nat} {v v':Value} {W W':World} (f:Fr B v v' W W') (hB:base≤B) (hv:∀ g,v.ownBlock=some g→base≤g) (hs:base≤W.heap.size):Below base W W' :=
 ⟨f.os,f.tape,f.output,f.size,fun k hk=>f.same k (by omega) (by omega) (fun e=>by have:=hv k e;omega)⟩
theorem Lo.fr {base:Nat} {T:TypeId} {W W':World} {B:Nat} {X Z:List Value} {s:Sd} {ca:List Value} {v v':Value} (h:Lo base W) (hs:Sl base T W B X Z s ca v) (hB:base≤B) (f:Fr B v v' W W'):Lo base W' :=
 h.step (f.low hB (fun g hg=>(hs.wr.ownB g hg).2.1) hs.wr.bs)
theorem Lo.le {base:Nat} {W:World} (h:Lo base W):base≤W.heap.size:=by
 obtain ⟨w0,rfl,_,hb⟩:=h;exact hb.size
def vB (W:World) (o:EO) (r:Ending) (q:World):Prop:=∃ cl vs,r=.returned (.agg cl.toArray)∧AnE W.heap.size q o cl vs∧(∀ g,vs.ownBlock=some g→W.heap.size≤g)∧Below W.heap.size W q
theorem cDo {b:Nat} {W:World} {ca:List Value} {s:Sd} (h:EnM b W ca s) {base:Nat} (hL:Lo base W) (t:ByteArray) (now:Int):Calls prog 115 #[.agg ca.toArray,.string t,.int .i64 now] W fun r q=>vB W (kC s.e s.F1 s.F2 t now) r q:=by
 obtain ⟨x1,x2,y1,y2,rfl,o1,o2,_,l1,l2⟩:=h;have h1:=HoldsO.own o1;have h2:=HoldsO.own o2;obtain ⟨t1,t2,t3,_⟩:=hL.tabs;rw [Array.toArray_toList];exact (u_ s.e x1 x2 y1 y2 s.F1 s.F2 t now W (by omega) (by omega) h1 h2 t1 t2 t3).mono fun r q hq=>AnE.of hq
theorem tK {b:Nat} {W:World} {ca:List Value} {s:Sd} (h:EnM b W ca s) {base:Nat} (hL:Lo base W) (p:Op.Pk) (now:Int):Calls prog 136 #[.agg ca.toArray,.agg #[.int .i64 p.code,.int .i64 p.id,.string p.data],.int .i64 now] W fun r q=>vB W (bn s.e s.F1 s.F2 p now) r q:=by
 obtain ⟨x1,x2,y1,y2,rfl,o1,o2,_,l1,l2⟩:=h;have h1:=HoldsO.own o1;have h2:=HoldsO.own o2;obtain ⟨t1,t2,t3,t4⟩:=hL.tabs;rw [Array.toArray_toList];exact (qM s.e x1 x2 y1 y2 s.F1 s.F2 p now W (by omega) (by omega) h1 h2 t1 t2 t3 t4).mono fun r q hq=>AnE.of hq
theorem PwT.below {w w':World} (h:PwT w) (hb:Below w.heap.size w w'):PwT w':=by
 unfold PwT Lib.TabIs World.var? at h ⊢;cases hg : prog.globalNamed "internal/strconv.uint64pow10" with
 | none=>rw [hg] at h;cases h
 | some g =>
  rw [hg] at h;simp only [Option.bind_some] at h ⊢;cases hc:w.heap[g]? with
  | none=>rw [hc] at h;cases h
  | some o=>rw [hb.block g (ge.1 hc).1];exact h
theorem rh {w:World} {g i:Nat} {v:Value} (h:w.cell? ⟨g,i,none⟩=some v):g<w.heap.size:=by
 by_cases hl:g<w.heap.size
 ·exact hl
 ·exfalso;unfold World.cell? at h;rw [Array.getElem?_eq_none (by simpa using Nat.le_of_not_lt hl)] at h;cases h
theorem MxT.below {w w':World} (h:MxT w) (hb:Below w.heap.size w w'):MxT w':=by
 obtain ⟨m,hm⟩:=h;exact ⟨m,(hb.cell (p:=⟨4,0,none⟩) (rh hm)).trans hm⟩
def ErT (w:World):Prop:=∃ T v,w.cell? ⟨1,0,none⟩=some (.iface T v)
theorem ErT.below {w w':World} (h:ErT w) (hb:Below w.heap.size w w'):ErT w':=by
 obtain ⟨T,v,hm⟩:=h;exact ⟨T,v,(hb.cell (p:=⟨1,0,none⟩) (rh hm)).trans hm⟩
def Tb (base:Nat) (W:World):Prop:=∃ w0:World,w0.heap.size=base∧(PwT w0∧MxT w0∧ErT w0∧Lib.Utf8Tabs 2 3 w0)∧Below base w0 W
theorem Tb.get {base:Nat} {W:World} (h:Tb base W):PwT W∧MxT W∧ErT W∧Lib.Utf8Tabs 2 3 W:=by
 obtain ⟨w0,rfl,⟨h1,h2,h3,h4⟩,hb⟩:=h;exact ⟨h1.below hb,h2.below hb,h3.below hb,Utf8Tabs_below h4 hb⟩
theorem Tb.step {base:Nat} {W W':World} (h:Tb base W) (hb:Below base W W'):Tb base W':=by
 obtain ⟨w0,e,ht,h0⟩:=h;exact ⟨w0,e,ht,h0.trans hb⟩
structure Dd where
 wide:Bool
 x:Int
 inn:Bool
 esc:Bool
 long:Bool
 u:ByteArray
abbrev iP (d:Dd):List Value:=[.bool d.wide,.int .i64 d.x,.bool d.inn,.bool d.esc,.bool d.long,.string d.u]
structure Ks where
 d:Dd
 s:Sd
 now:Int
 at':Int
structure DkM (base:Nat) (W:World) (D:Nat) (k:Ks) (ca:List Value):Prop where
 row:W.heap[D]?=some (.cells (iP k.d ++ ca ++ [Value.int .i64 k.now,Value.int .i64 k.at']).toArray 74)
 en:EnM base W ca k.s
 bs:base≤D
 lo:Lo base W
 tb:Tb base W
structure Od (D:Nat) (W W':World):Prop where
 os:W'.os=W.os
 tape:W'.tape=W.tape
 output:W'.output=W.output
 size:W.heap.size≤W'.heap.size
 same:∀ k,k<W.heap.size→k≠D→W'.heap[k]?=W.heap[k]?
theorem Od.refl (D:Nat) (W:World):Od D W W:=⟨rfl,rfl,rfl,zD _,fun _ _ _=>rfl⟩
theorem Od.trans {D:Nat} {a b c:World} (h:Od D a b) (g:Od D b c):Od D a c :=
 ⟨g.os.trans h.os,g.tape.trans h.tape,g.output.trans h.output,zE h.size g.size,fun k hk hD=>(g.same k (Nat.lt_of_lt_of_le hk h.size) hD).trans (h.same k hk hD)⟩
theorem Od.of_below {D:Nat} {W W':World} (h:Below W.heap.size W W'):Od D W W':=⟨h.os,h.tape,h.output,h.size,fun k hk _=>h.block k hk⟩
section
variable {base:Nat} {W W':World} {D:Nat} {k:Ks} {ca:List Value}
theorem DkM.lt (h:DkM base W D k ca):D<W.heap.size:=(ge.1 h.row).1
theorem DkM.below (h:DkM base W D k ca) (hb:Below W.heap.size W W'):DkM base W' D k ca :=
 ⟨(hb.block _ h.lt).trans h.row,h.en.keep fun g _ hg=>hb.block g (ge.1 hg).1,h.bs,h.lo.step (hb.mono h.lo.le),h.tb.step (hb.mono h.lo.le)⟩
theorem DkM.rangeE (h:DkM base W D k ca):W.rangeAt D 6 ca:=aS h.row
theorem DkM.nowC (h:DkM base W D k ca):W.cell? ⟨D,36,none⟩=some (.int .i64 k.now):=by
 rw [cr h.row];have:=h.en.len
 rw [List.getElem?_toArray,List.getElem?_append_right (by simp [this])];simp [this]
theorem DkM.atC (h:DkM base W D k ca):W.cell? ⟨D,37,none⟩=some (.int .i64 k.at'):=by
 rw [cr h.row];have:=h.en.len
 rw [List.getElem?_toArray,List.getElem?_append_right (by simp [this])];simp [this]
theorem fQ {W:World} {X g:Nat} {c cur:Array Value} {T T2:TypeId} (hX:W.heap[X]?=some (.cells c T)) (hg:W.heap[g]?=some (.cells cur T2)) (hT:T≠T2):g≠X:=fun e=>by
 rw [e,hX] at hg;injection hg with hg;injection hg with _ hg;exact hT hg
theorem DkM.setRow (h:DkM base W D k ca) {X:Nat} {c:Array Value} {T:TypeId} (hX:W.heap[X]?=some (.cells c T)) (hT:T≠74∧T≠27) (hb:base≤X) (cs:Array Value):DkM base (W.setRow X cs) D k ca :=
 ⟨(bH W X D cs (fQ hX h.row hT.1)).trans h.row,h.en.keep fun g _ hg=>bH W X g cs (fQ hX hg hT.2),h.bs,h.lo.step (am (zC _ _) hb cs),h.tb.step (am (zC _ _) hb cs)⟩
theorem AnE.setRow {b b':Nat} {o:EO} {cl:List Value} {vs:Value} (h:AnE b W o cl vs) (hb:b'≤b) {X:Nat} {c:Array Value} {T:TypeId} (hX:W.heap[X]?=some (.cells c T)) (hT:T≠27∧T≠32) (cs:Array Value):AnE b' (W.setRow X cs) o cl vs:=by
 obtain ⟨x1,x2,a3,a4,y1,y2,c3,c4,e1,e2,h1,h2,ap,h3⟩:=h;refine ⟨x1,x2,a3,a4,y1,y2,c3,c4,e1,e2,jY (dV h1 hb) fun g cur hg=>bH W X g cs (fQ hX hg hT.1),jY (dV h2 hb) fun g cur hg=>bH W X g cs (fQ hX hg hT.1),ap,?_⟩;exact h3.imp id fun ⟨g,cp,cur,e,q1,q2⟩=>⟨g,cp,cur,e,(bH W X g cs (fQ hX q1 hT.2)).trans q1,q2⟩
def eL (k:Ks) (t:ByteArray):EO:=if (Op.pread t.data.toList).code=0 then bn k.s.e k.s.F1 k.s.F2 (Op.pread t.data.toList).pk k.now else bA (Op.pread t.data.toList).code
theorem xR (h:DkM base W D k ca) (t:ByteArray) (ht:t.size≤100000) (h0:(Op.pread t.data.toList).code=0) :
  Calls prog 116 #[.pointer (some ⟨D,0,none⟩),.string t] W fun r q=>vB W (eL k t) r q:=by
 have CP:=aa fun W (hE:Et W)=>nm t W (by unfold maxLen;omega) hE
 have HT:eL k t=bn k.s.e k.s.F1 k.s.F2 (Op.pread t.data.toList).pk k.now:=if_pos h0;rw [HT];have CH:=aa fun W' (hb:Below W.heap.size W W')=>tK (h.below hb).en (h.below hb).lo (Op.pread t.data.toList).pk k.now
 have HK:=aa fun W' (hb:Below W.heap.size W W')=>h.below hb
 have hEt:=aa h.lo.tabs.2.2.2;generalize Op.pread t.data.toList=o at *;generalize bn k.s.e k.s.F1 k.s.F2 o.pk k.now=oo at *;have hl:=h.en.len;have hlt:=h.lt;clear h HT;obtain ⟨pk,cd⟩:=o;dsimp only at h0 CH;subst h0;have CQ:Hid (∀ W,Et W→Calls prog 135 #[.string t] W fun e w'=>e=.returned (.agg #[.int .i64 pk.code,.int .i64 pk.id,.string pk.data,.int .i64 0])∧Below W.heap.size W w'):=CP;clear CP;go_enter func116,ntmps116
 go_upto_region 1 with fail
 refine aI (fun z=>Below W.heap.size W z∧z.heap[W.heap.size]?=some (.cells (aC ag (.slice none 0 0) (.slice none 0 0) (.slice none 0 0) (.slice none 0 0) 0) 121)) ⟨(zC _ _).alloc (zD _) _,zF W _⟩ ?_;rintro z ⟨hz,hz2⟩;have HZ:=aa (zA hz hz2);clear hz hz2;go_wp2_with fail
 refine (uh CQ _ ((uh hEt).below (uh HZ).1 (uh hEt).lt)).mono ?_;rintro e z1 ⟨rfl,hb1⟩;have HZ1:=aa (zA ((uh HZ).1.trans (hb1.mono (uh HZ).1.size)) ((hb1.block _ (ge.1 (uh HZ).2).1).trans (uh HZ).2));clear hb1 HZ;go_upto_region 4 with fail
 have nP:W.heap.size<z1.heap.size:=(ge.1 (uh HZ1).2).1;refine aI (fun q=>Below W.heap.size W q∧q.heap[W.heap.size]?=some (.cells (aC ag (.slice none 0 0) (.slice none 0 0) (.slice none 0 0) (.slice none 0 0) 0) 121)∧q.heap[z1.heap.size]?=some (.cells #[.int .i64 pk.code,.int .i64 pk.id,.string pk.data,.int .i64 0] 185)) ⟨(uh HZ1).1.alloc (Nat.le_of_lt nP) _,(zG _ _ _ nP).trans (uh HZ1).2,zF z1 _⟩ ?_;rintro z ⟨hz1,hz2,hz3⟩;generalize z1.heap.size=P at *;have nD:D≠W.heap.size:=by omega
 have HB:=aa hz1.drew;have HP:Hid (z.drew.heap[P]?=some (.cells #[.int .i64 pk.code,.int .i64 pk.id,.string pk.data,.int .i64 0] 185)):=aa hz3;have HO:Hid (z.drew.heap[W.heap.size]?=some (.cells bk 121)):=aa hz2;clear hz1 hz2 hz3 HZ1;have HY:=aa (uh HK z.drew (uh HB));refine wp_region_held_drew (S:=fun q=>DkM base q D k ca∧q.cell? ⟨D,36,none⟩=some (.int .i64 k.now)∧q.heap[P]?=some (.cells #[.int .i64 pk.code,.int .i64 pk.id,.string pk.data,.int .i64 0] 185)) (by kernel_rfl) ⟨uh HY,(uh HY).nowC,uh HP⟩ (fun hHeld=>?_);generalize z.drew=y at *;refine tt 0 1 ?_;refine t2 2 ?_;refine t4 3 (.agg ca.toArray) rfl (yieldsIf_load_mid (by rfl) 72 (.tmp 16) rfl D 6 rfl ca _ (fun z hz=>hz.1.rangeE) underlying72 rfl (by rw [hl];exact aL)) ?_;try simp only [Act.put,sA,sZ,sS,gA,gZ,gS]
 refine t2 4 ?_;refine t4 5 (.agg #[.int .i64 pk.code,.int .i64 pk.id,.string pk.data]) rfl (yieldsIf_load_mid (by rfl) 32 (.tmp 18) rfl P 0 rfl [.int .i64 pk.code,.int .i64 pk.id,.string pk.data] _ (fun z hz=>aS (X:=[]) (Z:=[.int .i64 0]) hz.2.2) underlying32 rfl (by kernel_rfl)) ?_;try simp only [Act.put,sA,sZ,sS,gA,gZ,gS]
 refine tq 6 7 8 9 ?_;refine r3 10 fun K hK=>?_
 go_simp;refine (uh CH y (uh HB)).mono ?_;rintro e y1 ⟨cl,vs,rfl,hA,hf,hb1⟩;have hbs:=(uh HB).size;have HB1:=aa ((uh HB).trans (hb1.mono hbs));have HY1:=aa ((uh HY).below hb1);have HP1:=aa ((hb1.block P (ge.1 (uh HP)).1).trans (uh HP));have HO1:=aa ((hb1.block _ (ge.1 (uh HO)).1).trans (uh HO));have HA:=aa (zA hA hf);clear hA hf hb1 HP HO HY;go_wp2_with fail
 refine ro hK ⟨uh HY1,(uh HY1).nowC,uh HP1⟩ fun _=>?_
 refine r3 11 fun K hK=>?_
 rw [if_pos (by rfl)];have hcz:cl.toArray.size=33:=by rw [List.size_toArray,(uh HA).1.len]
 have hba:base≤W.heap.size:=by have:=(uh HY1).bs;omega
 refine wp_store_row 121 (.tmp 4) (.tmp 24) rfl W.heap.size cl.toArray rfl rfl 121 bk (uh HO1) (by rw [hcz];exact aw) (by rw [hcz];rfl) (uh HA).1.one ?_;have HY2:=aa ((uh HY1).setRow (uh HO1) ⟨by decide,by decide⟩ hba cl.toArray);refine ro hK ⟨uh HY2,(uh HY2).nowC,(bH _ _ _ _ (by omega)).trans (uh HP1)⟩ fun _=>?_
 refine dn ?_ _;go_wp2_with fail
 refine bodyPost_ret (v:=.agg cl.toArray) (by simp [results,results116,asAddr,ay (setRow_heap y1 W.heap.size _ cl.toArray _ _ (uh HO1)) hcz]) rfl ⟨cl,vs,rfl,(uh HA).1.setRow hbs (uh HO1) ⟨by decide,by decide⟩ _,fun g hg=>zE hbs ((uh HA).2 g hg),am (uh HB1) (zD _) _⟩
end
end Go.Proofs.YtjebigodbnefiaaGreatDoor
