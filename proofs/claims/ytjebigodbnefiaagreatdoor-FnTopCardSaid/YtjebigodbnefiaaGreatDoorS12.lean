/- WkJ DkD Frame Told -/
import Derived.Test.YtjebigodbnefiaaGreatDoorS09
import Derived.Test.YtjebigodbnefiaaGreatDoorS11
set_option maxHeartbeats 4000000
set_option maxRecDepth 100000
namespace Go.Proofs.YtjebigodbnefiaaGreatDoor
open Go.RowKit Go.Proofs.Tryz
theorem wI (w:World):Calls prog 156 #[.string mO] w fun e w'=>e=.returned (.iface 216 (.agg #[.int .i64 5]))∧w'=w:=by
 go_enter func156,ntmps156
 go_wp2
 go_ret
 exact ⟨rfl,rfl⟩
theorem yw (w:World):Calls prog 156 #[.string pT] w fun e w'=>e=.returned (.iface 216 (.agg #[.int .i64 0]))∧w'=w:=by
 go_enter func156,ntmps156
 go_wp2
 go_ret
 exact ⟨rfl,rfl⟩
theorem wJ (w:World):Calls prog 156 #[.string mP] w fun e w'=>e=.returned (.iface 242 (.agg #[]))∧w'=w:=by
 go_enter func156,ntmps156
 go_wp2
 go_ret
 exact ⟨rfl,rfl⟩
theorem wK (w:World):Calls prog 156 #[.string mQ] w fun e w'=>e=.returned (.iface 243 (.agg #[]))∧w'=w:=by
 go_enter func156,ntmps156
 go_wp2
 go_ret
 exact ⟨rfl,rfl⟩
theorem yx (w:World):Calls prog 156 #[.string pY] w fun e w'=>e=.returned (.iface 244 (.agg #[]))∧w'=w:=by
 go_enter func156,ntmps156
 go_wp2
 go_ret
 exact ⟨rfl,rfl⟩
theorem yz (w:World):Calls prog 156 #[.string pZ] w fun e w'=>e=.returned (.iface 244 (.agg #[]))∧w'=w:=by
 go_enter func156,ntmps156
 go_wp2
 go_ret
 exact ⟨rfl,rfl⟩
theorem yA (w:World):Calls prog 156 #[.string sB] w fun e w'=>e=.returned (.iface 245 (.agg #[]))∧w'=w:=by
 go_enter func156,ntmps156
 go_wp2
 go_ret
 exact ⟨rfl,rfl⟩
theorem yB (w:World):Calls prog 156 #[.string p6] w fun e w'=>e=.returned (.iface 246 (.agg #[]))∧w'=w:=by
 go_enter func156,ntmps156
 go_wp2
 go_ret
 exact ⟨rfl,rfl⟩
theorem yC (w:World):Calls prog 156 #[.string p7] w fun e w'=>e=.returned (.iface 247 (.agg #[]))∧w'=w:=by
 go_enter func156,ntmps156
 go_wp2
 go_ret
 exact ⟨rfl,rfl⟩
theorem wL (w:World):Calls prog 156 #[.string bP] w fun e w'=>e=.returned (.iface 218 (.agg #[.string bP]))∧w'=w:=by
 go_enter func156,ntmps156
 go_wp2
 go_ret
 exact ⟨rfl,rfl⟩
theorem wM (w:World):Calls prog 156 #[.string bQ] w fun e w'=>e=.returned (.iface 218 (.agg #[.string bQ]))∧w'=w:=by
 go_enter func156,ntmps156
 go_wp2
 go_ret
 exact ⟨rfl,rfl⟩
theorem wN (w:World):Calls prog 156 #[.string bL] w fun e w'=>e=.returned (.iface 218 (.agg #[.string bL]))∧w'=w:=by
 go_enter func156,ntmps156
 go_wp2
 go_ret
 exact ⟨rfl,rfl⟩
theorem yD (w:World):Calls prog 156 #[.string dz] w fun e w'=>e=.returned (.iface 218 (.agg #[.string dz]))∧w'=w:=by
 go_enter func156,ntmps156
 go_wp2
 go_ret
 exact ⟨rfl,rfl⟩
section
variable {w0 w1:World} {B:Nat} {c:Cx} {s:St} {v1 v2 vs vt:Value} {q:World}
theorem wO (h:Lay 182 w0 w1 B c s v1 v2 vs vt q) :
  Calls prog 275 #[.agg #[.string bP],.pointer (some ⟨B,0,none⟩)] q fun r q'=>r=.returned (.tuple #[])∧Lay 182 w0 w1 B c s v1 v2 vs vt q':=by
 have hb:Below q.heap.size q (q.alloc (.cells #[.string bP] 218)):=(zC _ _).alloc (zD _) _;have HL:=aa (h.step hb);clear h hb;go_enter func275,ntmps275
 go_wp2
 exact Great.bodyPost_end0 rfl rfl ⟨rfl,uh HL⟩
theorem wP (h:Lay 182 w0 w1 B c s v1 v2 vs vt q) :
  Calls prog 275 #[.agg #[.string bQ],.pointer (some ⟨B,0,none⟩)] q fun r q'=>r=.returned (.tuple #[])∧Lay 182 w0 w1 B c s v1 v2 vs vt q':=by
 have hb:Below q.heap.size q (q.alloc (.cells #[.string bQ] 218)):=(zC _ _).alloc (zD _) _;have HL:=aa (h.step hb);clear h hb;go_enter func275,ntmps275
 go_wp2
 exact Great.bodyPost_end0 rfl rfl ⟨rfl,uh HL⟩
theorem wQ (h:Lay 182 w0 w1 B c s v1 v2 vs vt q) :
  Calls prog 275 #[.agg #[.string bL],.pointer (some ⟨B,0,none⟩)] q fun r q'=>r=.returned (.tuple #[])∧Lay 182 w0 w1 B c { s with e:=gD s.e } v1 v2 vs vt q':=by
 have hb:Below q.heap.size q (q.alloc (.cells #[.string bL] 218)):=(zC _ _).alloc (zD _) _;have HL:=aa (h.step hb);clear h hb;go_enter func275,ntmps275
 go_wp2_with fail
 refine (wF (uh HL)).mono ?_;rintro r q1 ⟨rfl,h1⟩;go_wp2
 exact Great.bodyPost_end0 rfl rfl ⟨rfl,h1⟩
def jp (now:Int) (b:Bool) (e:En):En:={ e with du:=if gj e.st=true then (if (b || e.du == -1)=true then now+3 else e.du) else -1 }
theorem wR (h:Lay 182 w0 w1 B c s v1 v2 vs vt q) (b:Bool) (hn:0≤c.now∧c.now≤1000000000) :
  Calls prog 157 #[.pointer (some ⟨B,0,none⟩),.bool b] q fun r q'=>r=.returned (.tuple #[])∧Lay 182 w0 w1 B c { s with e:=jp c.now b s.e } v1 v2 vs vt q':=by
 have c12:=h.cell (i:=12) rfl;have c14:=h.cell (i:=14) rfl;have f14:=h.frz 14;have c30:=h.cell (i:=30) rfl;have C:=aa (jS B s.e.st q c12);obtain ⟨h3,h4⟩:=hn;have HL:=aa h;clear h c12;cases hr:gj s.e.st
 ·have HE:jp c.now b s.e={ s.e with du:=-1 }:=by unfold jp;rw [hr];rfl
  rw [hr] at C;go_enter func157,ntmps157
  go_wp2_with fail
  refine (uh C).mono ?_;rintro r ws ⟨rfl,hws⟩;replace hws:=hws.symm;subst hws;go_wp2
  refine Great.bodyPost_end0 rfl rfl ⟨rfl,?_⟩;rw [HE];exact (uh HL).setRaw 14 (.int .i64 (-1)) { s.e with du:=-1 } rfl
 ·rw [hr] at C;cases b
  ·by_cases hd:s.e.du=-1
   ·have HE:jp c.now false s.e={ s.e with du:=c.now+3 }:=by unfold jp;rw [hr,hd];rfl
    go_enter func157,ntmps157
    go_wp2_with fail
    refine (uh C).mono ?_;rintro r ws ⟨rfl,hws⟩;replace hws:=hws.symm;subst hws;go_wp2
    refine Great.bodyPost_end0 rfl rfl ⟨rfl,?_⟩;rw [HE];exact (uh HL).setRaw 14 (.int .i64 (c.now+3)) { s.e with du:=c.now+3 } rfl
   ·have hd2:(s.e.du == -1)=false:=beq_eq_false_iff_ne.2 hd;have HE:jp c.now false s.e=s.e:=by unfold jp;rw [hr,hd2];rfl
    go_enter func157,ntmps157
    go_wp2_with fail
    refine (uh C).mono ?_;rintro r ws ⟨rfl,hws⟩;replace hws:=hws.symm;subst hws;go_wp2
    refine Great.bodyPost_end0 rfl rfl ⟨rfl,?_⟩;rw [HE];exact uh HL
  ·have HE:jp c.now true s.e={ s.e with du:=c.now+3 }:=by unfold jp;rw [hr];rfl
   go_enter func157,ntmps157
   go_wp2_with fail
   refine (uh C).mono ?_;rintro r ws ⟨rfl,hws⟩;replace hws:=hws.symm;subst hws;go_wp2
   refine Great.bodyPost_end0 rfl rfl ⟨rfl,?_⟩;rw [HE];exact (uh HL).setRaw 14 (.int .i64 (c.now+3)) { s.e with du:=c.now+3 } rfl
end
def df (L:List ByteArray):ByteArray:=⟨(Lib.join (L.map (·.data.toList)) [32]).toArray⟩
theorem yS:Builder.Extra prog Tryz.laysDsk156_ren:={
 sizeBuilder:=by kernel_rfl
 liesBuilder:=by kernel_rfl
 t5:=underlying5
 a5:=Tryz.isAgg5
 z5:=Tryz.sizeOf5
 v5:=Tryz.zeroValue5
 infoByte:=by kernel_rfl
 cellsByte:=by kernel_rfl
 sizeByte:=by kernel_rfl
 neB5:=by decide }
theorem mv (r:List (List UInt8)) (m:Nat) (h:∀ x ∈ r,x.length≤m):(Lib.joinTail [32] r).length≤r.length*(m+1):=by
 induction r with
 | nil=>exact Nat.zero_le _
 | cons x r ih =>
  have h1:=h x (by simp);have h2:=ih fun y hy=>h y (by simp [hy])
  have e:Lib.joinTail [32] (x :: r)=[32] ++ x ++ Lib.joinTail [32] r:=by simp [Lib.joinTail]
  have e2:(x :: r).length*(m+1)=r.length*(m+1)+(m+1):=by rw [List.length_cons,Nat.succ_mul]
  rw [e,List.length_append,List.length_append,e2];simp only [List.length_cons,List.length_nil];omega
theorem u0 (L:List ByteArray) (m:Nat) (h:∀ x ∈ L,x.size≤m):(Lib.join (L.map (·.data.toList)) [32]).length≤L.length*(m+1):=by
 match L,h with
 | [],_=>exact Nat.zero_le _
 | x :: r,h =>
  have h1:x.data.toList.length≤m:=by exact h x (by simp)
  have h2:=mv (r.map (·.data.toList)) m fun y hy=>by
   obtain ⟨z,hz,rfl⟩:=List.mem_map.1 hy;exact h z (by simp [hz])
  rw [List.length_map] at h2;have e2:(x :: r).length*(m+1)=r.length*(m+1)+(m+1):=by rw [List.length_cons,Nat.succ_mul]
  rw [List.map_cons,Lib.join_cons,List.length_append,e2];omega
theorem vb (base:Nat) (v:Value) (L:List ByteArray) (n:Nat) (w:World) (hn:L.length=n) (h:w.ownsRow base 9 1 v n (a_ L)) (hm:n≤1000) (hs:∀ x ∈ L,x.size≤10000) :
  Calls prog 113 #[v,.string ⟨#[32]⟩] w fun e w'=>e=.returned (.string (df L))∧Below w.heap.size w w':=by
 subst hn;have hl:=u0 L 10000 hs;rcases h.2 with ⟨h1,h2⟩ | ⟨g,cap,cur,h1,_,h3,h4,_,h6,h7⟩
 ·have e:=List.eq_nil_of_length_eq_zero h2;subst e;rw [h1];exact (Any.strings_Join_none Tryz.laysDsk156 yS _ _ ⟨#[32]⟩ w).mono fun e w' ⟨he,hw⟩=>⟨he,hw ▸ zC _ _⟩
 ·rw [h1];refine Any.strings_Join Tryz.laysDsk156 yS g 0 cap L ⟨#[32]⟩ w (fun j x hj=>?_) (ge.1 h3).1 (by omega) (by omega) (zE hl (by have:L.length*(10000+1)≤1000*(10000+1):=Nat.mul_le_mul_right _ hm;omega));rw [Nat.zero_add,cr h3];have hj2:=(List.getElem?_eq_some_iff.1 hj).1;have h8:cur.toList[j]?=(a_ L)[j]?:=by rw [← h7,List.getElem?_take,if_pos (by omega)]
  rw [Array.getElem?_toList] at h8;rw [h8];unfold a_;rw [List.getElem?_map,hj];rfl
theorem kV (l:List UInt8) (b:Bool):(gf l b).size=de b:=by
 cases b
 ·exact iJ _
 ·exact iJ _
def eH (t:ByteArray) (x:Int) (b:Bool):ByteArray:=if 1≤t.size∧t.size≤300∧fp x=true then ⟨#[126]⟩ ++ co (Hd.stuff x.toNat (t ++ gf t.data.toList b).data.toList) ++ ⟨#[126]⟩ else ⟨#[]⟩
theorem ol (a:Nat) (u:ByteArray):(co (Hd.stuff a u.data.toList)).size≤2*u.size:=by
 rw [eJ];have:=Hd.stuff_len a u.data.toList
 have e:u.data.toList.length=u.size:=(Lib.size_eq u).symm;omega
theorem mS (t:ByteArray) (a:Nat) (b:Bool) (w:World) (h1:1≤t.size) (h2:t.size≤300) (ha:a<4294967296) (hT:Lib.Utf8Tabs 2 3 w) :
  Calls prog 9 #[.string t,.int .i64 a,.bool b] w fun e w'=>e=.returned (.string (⟨#[126]⟩ ++ co (Hd.stuff a (t ++ gf t.data.toList b).data.toList) ++ ⟨#[126]⟩))∧Below w.heap.size w w':=by
 have d1:¬ ((t.size:Int)<1):=by omega
 have d2:¬ ((300:Int)<(t.size:Int)):=by omega
 have c1:=oB a w;rw [lV ha] at c1;have c2:=n9 t b w (by unfold maxLen;omega) (by omega) hT;have hs:=kV t.data.toList b;have hb4:=jh b;generalize gf t.data.toList b=T at *;have hU:(t ++ T).size≤304:=by rw [ByteArray.size_append];omega
 have hcat:¬ (9223372036854775807<t.size+T.size):=by omega
 have C3:=aa fun w=>sX (t ++ T) a w ha (by omega)
 have hV:=ol a (t ++ T);obtain ⟨U,hUe⟩:∃ U,t ++ T=U:=⟨_,rfl⟩;rw [hUe] at hU C3 hV;rw [hUe];generalize co (Hd.stuff a U.data.toList)=V at *;have HC:=aa hcat;have HV:=aa hV;clear hcat hV;go_enter func9,ntmps9
 go_wp2_with (first
  | (go_at_call 19;refine c1.mono ?_;rintro e w1 ⟨rfl,hw⟩;replace hw:=hw.symm;subst hw))
 refine c2.mono ?_;rintro e w2 ⟨rfl,hb2⟩;have hcat:=uh HC;go_wp2_with fail
 refine (uh C3 _).mono ?_;rintro e w3 ⟨rfl,hb3⟩;clear hcat HC hUe;have hV:=uh HV;have hcat2:¬ (9223372036854775807<(ByteArray.mk #[126]).size+V.size):=by rw [show (ByteArray.mk #[126]).size=1 from rfl];omega
 obtain ⟨Z,hZ⟩:∃ Z,ByteArray.mk #[126] ++ V=Z:=⟨_,rfl⟩;have hZs:Z.size=1+V.size:=by rw [← hZ,ByteArray.size_append];rfl
 have hcat3:¬ (9223372036854775807<Z.size+(ByteArray.mk #[126]).size):=by rw [show (ByteArray.mk #[126]).size=1 from rfl];omega
 clear hZs;go_wp2
 go_ret
 exact ⟨by rw [hZ];rfl,hb2.trans (hb3.mono hb2.size)⟩
theorem jl (t:ByteArray) (x:Int) (b:Bool) (w:World) (ht:t.size≤maxLen) (hT:Lib.Utf8Tabs 2 3 w) :
  Calls prog 9 #[.string t,.int .i64 x,.bool b] w fun e w'=>e=.returned (.string (eH t x b))∧Below w.heap.size w w':=by
 unfold maxLen at ht;by_cases h1:1≤t.size
 ·by_cases h2:t.size≤300
  ·by_cases hx:fp x=true
   ·obtain ⟨a,rfl,ha⟩:=lU hx;rw [show eH t a b=_ from if_pos ⟨h1,h2,hx⟩,Int.toNat_natCast];exact mS t a b w h1 h2 ha hT
   ·rw [show eH t x b=_ from if_neg fun h=>hx h.2.2];have d1:¬ ((t.size:Int)<1):=by omega
    have d2:¬ ((300:Int)<(t.size:Int)):=by omega
    have c1:=oB x w;rw [Bool.not_eq_true] at hx;rw [hx] at c1;go_enter func9,ntmps9
    go_wp2_with (first
     | (go_at_call 19;refine c1.mono ?_;rintro e w1 ⟨rfl,rfl⟩))
    go_ret
    exact ⟨rfl,zC _ _⟩
  ·rw [show eH t x b=_ from if_neg fun h=>h2 h.2.1];have d1:¬ ((t.size:Int)<1):=by omega
   have d2:(300:Int)<(t.size:Int):=by omega
   go_enter func9,ntmps9
   go_wp2
   go_ret
   exact ⟨rfl,zC _ _⟩
 ·rw [show eH t x b=_ from if_neg fun h=>h1 h.1];have d1:(t.size:Int)<1:=by omega
  go_enter func9,ntmps9
  go_wp2
  go_ret
  exact ⟨rfl,zC _ _⟩
def cj (fs:List Hd.Fd):List Value:=fs.flatMap fun f=>[.int .i64 f.kind,.string (co f.text)]
theorem dD (fs:List Hd.Fd):(cj fs).length=fs.length*2:=by
 induction fs with
 | nil=>rfl
 | cons f fs ih=>simp [cj] at ih ⊢;omega
theorem ql (fs:List Hd.Fd):∀ v ∈ cj fs,v.oneCell'=true:=by
 intro v hv;simp only [cj,List.mem_flatMap,List.mem_cons,List.not_mem_nil,or_false] at hv;obtain ⟨f,_,h | h⟩:=hv<;>subst h<;>rfl
theorem k_ (fs:List Hd.Fd) (i:Nat) (f:Hd.Fd) (h:fs[i]?=some f):(cj fs)[i*2]?=some (.int .i64 f.kind)∧(cj fs)[i*2+1]?=some (.string (co f.text)):=by
 induction fs generalizing i with
 | nil=>simp at h
 | cons d fs ih =>
  cases i with
  | zero =>
   simp at h;subst h;exact ⟨rfl,rfl⟩
  | succ i =>
   have:=ih i (by simpa using h)
   have e:cj (d :: fs)=.int .i64 d.kind :: .string (co d.text) :: cj fs:=rfl;rw [e,show (i+1)*2=i*2+2 by omega];exact this
theorem ox (fs:List Hd.Fd) (j:Nat) (v:Value) (h:(cj fs)[j]?=some v):∃ i f,fs[i]?=some f∧((j=i*2∧v=.int .i64 f.kind)∨(j=i*2+1∧v=.string (co f.text))):=by
 have hj:j<fs.length*2:=by rw [← dD];exact fx h
 have hi:j / 2<fs.length:=by omega
 have g:=k_ fs (j / 2) fs[j / 2] (List.getElem?_eq_getElem hi);refine ⟨j / 2,fs[j / 2],List.getElem?_eq_getElem hi,?_⟩;rcases Nat.mod_two_eq_zero_or_one j with e | e
 ·left
  have ej:j / 2*2=j:=by omega
  rw [ej] at g;exact ⟨ej.symm,Option.some.inj (h.symm.trans g.1)⟩
 ·right
  have ej:j / 2*2+1=j:=by omega
  rw [ej] at g;exact ⟨ej.symm,Option.some.inj (h.symm.trans g.2)⟩
theorem AE:∃ i,prog.info? 141=some i∧i.zero=some (.agg #[.int .i64 0,.string ⟨#[]⟩])∧i.size=2∧i.bytes=24:=by
 have h:(prog.info? 141).map (fun i=>(i.zero,i.size,i.bytes))=some (some (.agg #[.int .i64 0,.string ⟨#[]⟩]),2,24):=by kernel_rfl
 obtain ⟨i,hi,hzz⟩:=Option.map_eq_some_iff.1 h;simp only [Prod.mk.injEq] at hzz;exact ⟨i,hi,hzz.1,hzz.2.1,hzz.2.2⟩
theorem oy {P:Program} (w:World) (dT sT ty elem:TypeId) (b o dLen dCap:Nat) (a:Addr) (sLen sCap n size:Nat) (cs:List Value)
  (hu:P.underlying dT=some (.slice elem)) (hs:(P.info? elem).map (·.size)=some size) (hn:Nat.min sLen dLen=n) (hl:cs.length=n*size)
  (hsrc:∀ j v,cs[j]?=some v→w.cell? (a.add j)=some v) (hc:∀ j,j<cs.length→(w.cell? ⟨b,o+j,none⟩).isSome=true) (hf:∀ j,j<cs.length→w.frozen? ⟨b,o+j,none⟩=false) (h1:∀ v ∈ cs,v.oneCell'=true) :
  (Builtin.copy_ #[dT,sT] ty #[.slice (some ⟨b,o,none⟩) dLen dCap,.slice (some a) sLen sCap]).run P w=.ok (goInt n) (w.setCells b o cs):=by
 have hld:=run_loadCells_list (P:=P) w a cs hsrc;have hst:=run_storeCells_cells (P:=P) b o cs 0 w (by simpa using hc) (by simpa using hf) h1;rw [hl] at hld;cases hq:P.info? elem with
 | none=>simp [hq] at hs
 | some i =>
  have hi:i.size=size:=by simpa [hq] using hs
  simp [Builtin.copy_,run_underlying hu,Builtin.lenOf,Builtin.firstCells,sizeOf,typeInfo,hq,hi,hn,hld,hst]
def fH (cs:Array Value):Nat→List Value→Array Value
 | _,[]=>cs
 | o,v :: r=>fH (cs.setIfInBounds o v) (o+1) r
theorem gy (vs:List Value):∀ (cs:Array Value) (o:Nat),(fH cs o vs).size=cs.size:=by
 induction vs with
 | nil=>intro cs o;rfl
 | cons v r ih=>intro cs o;rw [fH,ih,Array.size_setIfInBounds]
theorem eC (b:Nat) (T:TypeId) (vs:List Value):∀ (w:World) (cs:Array Value) (o:Nat),w.heap[b]?=some (.cells cs T)→(w.setCells b o vs).heap[b]?=some (.cells (fH cs o vs) T):=by
 induction vs with
 | nil=>intro w cs o h;exact h
 | cons v r ih=>intro w cs o h;exact ih _ _ _ (zH w b o cs T v h)
theorem d_ (vs:List Value):∀ (cs:Array Value) (o j:Nat),o+vs.length≤cs.size→(fH cs o vs)[j]?=if o≤j∧j<o+vs.length then vs[j - o]? else cs[j]?:=by
 induction vs with
 | nil=>intro cs o j _;rw [if_neg (by simp)];rfl
 | cons v r ih =>
  intro cs o j h;simp only [List.length_cons] at h;rw [fH,ih _ _ _ (by rw [Array.size_setIfInBounds];omega)];simp only [List.length_cons];by_cases h1:o+1≤j∧j<o+1+r.length
  ·rw [if_pos h1,if_pos (by omega),show j - o=(j - (o+1))+1 by omega];rfl
  ·rw [if_neg h1];by_cases h2:j=o
   ·subst h2;rw [if_pos (by omega),eI (by omega),Nat.sub_self];rfl
   ·rw [if_neg (by omega),aN (by omega)]
theorem dB (b:Nat) (vs:List Value):∀ (a w:World) (o:Nat),Near b a w→Near b a (w.setCells b o vs):=by
 induction vs with
 | nil=>intro a w o h;exact h
 | cons v r ih=>intro a w o h;exact ih _ _ _ (h.setCell o v)
theorem told (w:World) (B g:Nat) (wide long:Bool) (held:List UInt8) (fs:List Hd.Fd) (h:Dw w B g wide long held fs) :
  Calls prog 124 #[.pointer (some ⟨B,0,none⟩)] w fun e w'=>∃ v,e=.returned v∧w'.ownsRow w.heap.size 141 2 v fs.length (cj fs)∧Below w.heap.size w w':=by
 have hBw:=h.lt;obtain ⟨cs,hB,hd⟩:=h;obtain ⟨fi,hi1,hi2,hi3,hi4⟩:=AE;have e2:w.cell? ⟨B,1108,none⟩=some (.int .i64 fs.length):=by rw [cr hB];exact hd.cn
 have hl:=hd.fl;have HB:=aa hB;have HD:=aa hd;clear hB hd;go_enter func124,ntmps124
 go_wp2_with (first
  | (at_make;refine wpList_make_full w rfl _ _ 136 rfl w.heap.size 141 fi _ 2 underlying136 hi1 hi2 hi3 .i64 .i64 _ _ fs.length rfl rfl rfl rfl (by rw [hi4];omega) (by unfold maxLen;omega) (zD _) ?_;rintro w1 ho1 hg1;have HO1:=aa ho1;have HG1:=aa hg1;clear ho1 hg1))
 have hb1:Below w.heap.size w w1:=(zC _ _).grown (uh HG1) (zD _) (fun k hk=>by cases hk);have hB1:w1.heap[B]?=some (.cells cs 168):=(hb1.block B hBw).trans (uh HB);have e3:w1.cell? ⟨B,1108,none⟩=some (.int .i64 fs.length):=by rw [cr hB1];exact (uh HD).cn
 obtain ⟨cur,hc1,hc2⟩:∃ cur,w1.heap[w.heap.size]?=some (.cells cur 141)∧cur.size=fs.length*2:=by
  rcases (uh HO1).2 with ⟨k,_⟩ | ⟨g',cap,cur,k1,_,k3,_,_,k6,_⟩
  ·cases k
  ·simp only [Value.slice.injEq,Option.some.injEq,Addr.mk.injEq,true_and,and_true] at k1;obtain ⟨rfl,rfl⟩:=k1;exact ⟨cur,k3,k6⟩
 have hcp:(Builtin.copy_ #[136,136] 3 #[.slice (some ⟨w.heap.size,0,none⟩) fs.length fs.length,.slice (some ⟨B,308,none⟩) fs.length 400]).run prog w1.drew=.ok (goInt fs.length) (w1.drew.setCells w.heap.size 0 (cj fs)):=by
  refine oy w1.drew 136 136 _ 141 w.heap.size 0 _ _ ⟨B,308,none⟩ _ _ fs.length 2 (cj fs) underlying136 (by rw [hi1];simp [hi3]) (Nat.min_self _) (dD fs) ?_ ?_ ?_ (ql fs)
  ·intro j v hv;rw [Addr.add_lit];show w1.cell? _=_
   rw [cr hB1];obtain ⟨i,f,hf,(⟨rfl,rfl⟩ | ⟨rfl,rfl⟩)⟩:=ox fs j v hv
   ·exact (uh HD).fk i f hf
   ·exact (uh HD).ft i f hf
  ·intro j hj;rw [dD] at hj;show (w1.cell? _).isSome=true
   rw [cr hc1,Nat.zero_add,Array.getElem?_eq_getElem (by omega)];rfl
  ·intro j hj;exact aX (w:=w1) hc1 _
 have hle:(fs.length:Int)≤400:=by omega
 have HC1:=aa hc1;clear hB1 hc1;go_region
 go_wp2
 go_ret
 have hs0:0+(cj fs).length≤cur.size:=by rw [dD,hc2];omega
 have hbE:=eC w.heap.size 141 (cj fs) w1.drew cur 0 (uh HC1);have hN:Near w.heap.size w1 (w1.drew.setCells w.heap.size 0 (cj fs)):=dB _ _ _ _ _ (Near.refl _ _).drew;refine ⟨_,rfl,⟨by rw [dD],Or.inr ⟨w.heap.size,fs.length,_,rfl,zD _,hbE,zD _,by unfold maxLen;omega,by rw [gy,hc2],?_⟩⟩,hb1.trans (hN.below (zD _) hb1.size)⟩;apply List.ext_getElem?
 intro j;rw [List.getElem?_take,Array.getElem?_toList,d_ _ _ _ _ hs0,dD];by_cases hj:j<fs.length*2
 ·rw [if_pos hj,if_pos (by omega),Nat.sub_zero]
 ·rw [if_neg hj,List.getElem?_eq_none (by rw [dD];omega)]
end Go.Proofs.YtjebigodbnefiaaGreatDoor
