/- Take AsErr AsHit LaidEt LaidEh Bys OptRow OptEq Rules -/
import Derived.Test.YtahpjlbaagkdoaaGreatDoorS01
import Derived.Stop.Asserts
import Derived.LaidHandle
import Derived.Laws.EntriesVeiled
set_option maxHeartbeats 4000000
set_option maxRecDepth 100000
namespace Go.Proofs.YtahpjlbaagkdoaaGreatDoor
open Go.RowKit Go.Proofs.Tryz
def Rest (w:World) (B:Nat) (v:Value) (l:List UInt8):Prop:=∃ off cap,v=.slice (some ⟨B,off,none⟩) l.length cap∧l.length≤cap∧Lies w B off l
theorem Lies.same {w w':World} {B off:Nat} {l:List UInt8} (h:Lies w B off l) (hb:w'.heap[B]?=w.heap[B]?):Lies w' B off l:=fun i hi=>by
 rw [← h i hi];simp [World.cell?,hb]
theorem Rest.same {w w':World} {B:Nat} {v:Value} {l:List UInt8} (h:Rest w B v l) (hb:w'.heap[B]?=w.heap[B]?):Rest w' B v l:=by
 obtain ⟨off,cap,h1,h2,h3⟩:=h;exact ⟨off,cap,h1,h2,h3.same hb⟩
theorem Lies.take {w:World} {B off:Nat} {l:List UInt8} (h:Lies w B off l) (n:Nat):Lies w B off (l.take n):=fun i hi=>by
 rw [List.length_take] at hi;rw [h i (by omega),List.getElem_take]
theorem rg8 {w:World} {B:Nat} {x0 x1 x2 x3 x4 x5 x6 x7:Value} {T:TypeId} (h:w.heap[B]?=some (.cells #[x0,x1,x2,x3,x4,x5,x6,x7] T)) :
  w.cell? ⟨B,0,none⟩=some x0∧w.cell? ⟨B,1,none⟩=some x1∧w.cell? ⟨B,2,none⟩=some x2∧w.cell? ⟨B,3,none⟩=some x3∧w.cell? ⟨B,4,none⟩=some x4∧w.cell? ⟨B,5,none⟩=some x5∧w.cell? ⟨B,6,none⟩=some x6∧w.cell? ⟨B,7,none⟩=some x7∧∀ o,w.frozen? ⟨B,o,none⟩=false :=
 ⟨by rw [cr h];rfl,by rw [cr h];rfl,by rw [cr h];rfl,by rw [cr h];rfl,by rw [cr h];rfl,by rw [cr h];rfl,by rw [cr h];rfl,by rw [cr h];rfl,fun o=>frz h o⟩
def wrong (c:Int):Value:=.iface 218 (.agg #[.int .i64 c])
theorem take_short (R n cap size:Nat) (ad:Option Addr) (lk:Int) (x0 x1 x2 x5 x6 x7:Value) (w:World) (h:n<size) (hR:w.heap[R]?=some (.cells #[x0,x1,x2,.int .i64 lk,.slice ad n cap,x5,x6,x7] 213)) :
  Calls prog 214 #[.pointer (some ⟨R,0,none⟩),.int .i64 size] w fun e w'=>e=.returned (.tuple #[.slice none 0 0,wrong lk])∧∃ k,w'=w.drewN k:=by
 obtain ⟨c0,c1,c2,c3,c4,c5,c6,c7,cf⟩:=rg8 hR;have d1:(n:Int)<(size:Int):=by omega
 clear hR;go_enter func214,ntmps214
 go_wp2_with fail
 go_quiet (fail)
 go_wp2
 go_ret2
 exact ⟨rfl,_,rfl⟩
def Took (w w':World) (R B off n size:Nat) (x0 x1 x2 x3 x5 x6 x7:Value):Prop :=
 ∃ off' cap',w'.heap[R]?=some (.cells #[x0,x1,x2,x3,.slice (some ⟨B,off',none⟩) (n - size) cap',x5,x6,x7] 213)∧n - size≤cap'∧(n=size∨off'=off+size)∧Nr R w w'
theorem take_ok (R B off n cap size:Nat) (x0 x1 x2 x3 x5 x6 x7:Value) (w:World) (h:size≤n) (hcap:n≤cap) (hR:w.heap[R]?=some (.cells #[x0,x1,x2,x3,.slice (some ⟨B,off,none⟩) n cap,x5,x6,x7] 213)) :
  Calls prog 214 #[.pointer (some ⟨R,0,none⟩),.int .i64 size] w fun e w'=>e=.returned (.tuple #[.slice (some ⟨B,off,none⟩) size size,.nilIface]) ∧
   Took w w' R B off n size x0 x1 x2 x3 x5 x6 x7:=by
 obtain ⟨c0,c1,c2,c3,c4,c5,c6,c7,cf⟩:=rg8 hR;have d1:¬ ((n:Int)<(size:Int)):=by omega
 have d2:(size:Int)≤(cap:Int):=by omega
 have d3:(size:Int)≤(n:Int):=by omega
 have d4:(n:Int)≤(cap:Int):=by omega
 have hf:=cf 4;have HR:=hide hR;clear hR cf;by_cases hc:cap=size
 ·subst hc;obtain rfl:n=cap:=by omega
  go_enter func214,ntmps214
  go_wp2
  go_ret2
  exact ⟨rfl,off,0,by rw [heap_setCell_same _ _ 4 _ _ _ (uh HR),Nat.sub_self];rfl,by omega,Or.inl rfl,(Nr.refl _ _).setCell 4 _⟩
 ·go_enter func214,ntmps214
  go_wp2
  go_ret2
  exact ⟨rfl,off+size,cap - size,by rw [heap_setCell_same _ _ 4 _ _ _ (uh HR)];rfl,by omega,Or.inr rfl,(Nr.refl _ _).setCell 4 _⟩
def TookL (w w':World) (R B:Nat) (l:List UInt8) (x0 x1 x2 x3 x5 x6 x7:Value):Prop :=
 ∃ v',w'.heap[R]?=some (.cells #[x0,x1,x2,x3,v',x5,x6,x7] 213)∧Rest w' B v' l∧Nr R w w'
theorem took_rest {w w':World} {R B off size:Nat} {l:List UInt8} {x0 x1 x2 x3 x5 x6 x7:Value} (h:Took w w' R B off l.length size x0 x1 x2 x3 x5 x6 x7) (hl:Lies w B off l) (hB:B<w.heap.size) (hne:B≠R) :
  TookL w w' R B (l.drop size) x0 x1 x2 x3 x5 x6 x7∧Lies w' B off (l.take size):=by
 obtain ⟨off',cap',h1,h2,h3,h4⟩:=h;have hl':=hl.same (h4.block B hB hne);refine ⟨⟨_,h1,⟨off',cap',by rw [List.length_drop],by rw [List.length_drop];exact h2,?_⟩,h4⟩,hl'.take size⟩;rcases h3 with h3 | h3
 ·intro i hi;rw [List.length_drop] at hi;omega
 ·rw [h3];exact hl'.drop size
theorem highest0 (w:World):Calls prog 151 #[.slice none 0 0] w fun e w'=>e=.returned (.int .i64 0)∧w'=w:=by
 go_enter func151,ntmps151
 go_wp2
 go_loop [3,8] (fun n i=>i=.int .i64 0∧n=.int .i64 0) (fun _ _=>0)
 case atStart=>exact ⟨rfl,rfl⟩
 case round =>
  obtain ⟨rfl,rfl⟩:=hrel;go_wp2
  go_ret
  exact ⟨rfl,rfl⟩
theorem num_short (R B size:Nat) (l:List UInt8) (v:Value) (lk:Int) (x0 x1 x2 x5 x6 x7:Value) (w:World) (h:l.length<size) (hv:Rest w B v l) (hR:w.heap[R]?=some (.cells #[x0,x1,x2,.int .i64 lk,v,x5,x6,x7] 213)) :
  Calls prog 212 #[.pointer (some ⟨R,0,none⟩),.int .i64 size] w fun e w'=>e=.returned (.tuple #[.int .i64 0,wrong lk])∧∃ k,w'=w.drewN k:=by
 obtain ⟨off,cap,rfl,hcap,hl⟩:=hv;have C:=hide (take_short R l.length cap size _ lk x0 x1 x2 x5 x6 x7 w h hR);clear hR hl;go_enter func212,ntmps212
 go_wp2_with fail
 refine (uh C).mono ?_;rintro e w1 ⟨rfl,k,rfl⟩;go_wp2_with fail
 refine (highest0 _).mono ?_;rintro e w2 ⟨rfl,rfl⟩;go_wp2
 go_ret2
 exact ⟨rfl,k,rfl⟩
theorem num_ok (R B size:Nat) (l:List UInt8) (v:Value) (x0 x1 x2 x3 x5 x6 x7:Value) (w:World) (hs:size≤2) (h:size≤l.length) (hB:B<w.heap.size) (hne:B≠R) (hv:Rest w B v l) (hR:w.heap[R]?=some (.cells #[x0,x1,x2,x3,v,x5,x6,x7] 213)) :
  Calls prog 212 #[.pointer (some ⟨R,0,none⟩),.int .i64 size] w fun e w'=>e=.returned (.tuple #[.int .i64 (numOf (l.take size):Nat),.nilIface])∧TookL w w' R B (l.drop size) x0 x1 x2 x3 x5 x6 x7:=by
 obtain ⟨off,cap,rfl,hcap,hl⟩:=hv;have C:=hide (take_ok R B off l.length cap size x0 x1 x2 x3 x5 x6 x7 w h hcap hR);have HL:=hide hl;have hlen:(l.take size).length=size:=by rw [List.length_take];omega
 have C2:=hide fun v=>highest B off size (l.take size) v (by omega)
 rw [hlen] at C2;generalize numOf (l.take size)=M at *;clear hR hl hlen;go_enter func212,ntmps212
 go_wp2_with fail
 refine (uh C).mono ?_;rintro e w1 ⟨rfl,ht⟩;obtain ⟨ht1,ht2⟩:=took_rest ht (uh HL) hB hne;clear ht C;go_wp2_with fail
 refine (uh C2 _ ht2).mono ?_;rintro e w2 ⟨rfl,hw2⟩;go_wp2
 go_ret2
 exact ⟨rfl,hw2 ▸ ht1⟩
end Go.Proofs.YtahpjlbaagkdoaaGreatDoor
namespace Go.Proofs.YtahpjlbaagkdoaaGreatDoor
open Go.Proofs.Tryz
open Go.RowKit Go.Extern.Stop Go.Stop Go.Extern
theorem as_nil (t:Value) (w:World):Calls prog 156 #[.nilIface,t] w fun e w'=>e=.returned (.bool false)∧w'=w:=by
 go_enter func156,ntmps156
 go_wp2
 go_ret
 exact ⟨rfl,rfl⟩
theorem valueP (t:Addr) (w:World):(ReflectliteValue.unpack (.iface 220 (.pointer (some t)))).run prog w
  = .ok (.agg #[.pointer (some ⟨6,220,none⟩),.pointer (some ⟨w.heap.size,0,none⟩),.int .u64 150]) (w.alloc (.cells #[.pointer (some t)] 220)):=by kernel_rfl
theorem typeP (a : Addr) (w : World) : (ReflectliteValue.methodAny (ReflectliteValue.valueError "reflectlite.Value.Type" 0) (fun t _ _ _ => ReflectliteType.toType t) #[.agg #[.pointer (some ⟨6, 220, none⟩), .pointer (some a), .int .u64 150]]).run prog w
  = .ok (.iface 266 (.agg #[.pointer (some ⟨6,220,none⟩)])) w:=by kernel_rfl
theorem methKind (h : Value) (w : World) : (Go.method 415 266 (.agg #[h]) "Kind").run prog w = .ok (229, h) w := by kernel_rfl
theorem methElem (h : Value) (w : World) : (Go.method 415 266 (.agg #[h]) "Elem").run prog w = .ok (255, .agg #[h]) w := by kernel_rfl
theorem methImplements (h : Value) (w : World) : (Go.method 415 266 (.agg #[h]) "Implements").run prog w = .ok (256, .agg #[h]) w := by kernel_rfl
theorem methAssignable (h : Value) (w : World) : (Go.method 415 266 (.agg #[h]) "AssignableTo").run prog w = .ok (253, .agg #[h]) w := by kernel_rfl
theorem kindP (w:World):((ReflectliteType.abiMethod fun t=>(fun a:Nat=>Value.int IntKind.u8 (a:Int)) <$> Rtype.kind t) #[.pointer (some ⟨6,220,none⟩)]).run prog w=.ok (.int .u8 22) w:=by kernel_rfl
theorem kindM (w:World):((ReflectliteType.abiMethod fun t=>(fun a:Nat=>Value.int IntKind.u8 (a:Int)) <$> Rtype.kind t) #[.pointer (some ⟨6,218,none⟩)]).run prog w=.ok (.int .u8 25) w:=by kernel_rfl
theorem partsP (a:Addr) (w:World):(ReflectliteValue.parts (.agg #[.pointer (some ⟨6,220,none⟩),.pointer (some a),.int .u64 150])).run prog w=.ok (some (220,a,150)) w:=by kernel_rfl
theorem elemT (w:World):(ReflectliteType.method ReflectliteType.elem #[.agg #[.pointer (some ⟨6,220,none⟩)]]).run prog w=.ok (.iface 266 (.agg #[.pointer (some ⟨6,218,none⟩)])) w:=by kernel_rfl
theorem implM (w : World) : (ReflectliteType.relation "Implements" ReflectliteType.implements_ #[.agg #[.pointer (some ⟨6, 218, none⟩)], .iface 266 (.agg #[.pointer (some ⟨6, 195, none⟩)])]).run prog w = .ok (.bool true) w := by kernel_rfl
theorem typeOfM (v:Value) (w:World):(ReflectliteType.typeOf #[.iface 218 v]).run prog w=.ok (.iface 266 (.agg #[.pointer (some ⟨6,218,none⟩)])) w:=by kernel_rfl
theorem assignM (w : World) : (ReflectliteType.relation "AssignableTo" ReflectliteType.assignableTo #[.agg #[.pointer (some ⟨6, 218, none⟩)], .iface 266 (.agg #[.pointer (some ⟨6, 218, none⟩)])]).run prog w = .ok (.bool true) w := by kernel_rfl
theorem valueM (c:Int) (w:World):(ReflectliteValue.unpack (.iface 218 (.agg #[.int .i64 c]))).run prog w
  = .ok (.agg #[.pointer (some ⟨6,218,none⟩),.pointer (some ⟨w.heap.size,0,none⟩),.int .u64 153]) (w.alloc (.cells #[.int .i64 c] 218)):=by kernel_rfl
theorem elemOfP (w:World):(Rtype.elem? 220).run prog w=.ok (some 218) w:=by kernel_rfl
theorem mkM (p:Addr) (w:World):(ReflectliteValue.mk 218 p ReflectliteValue.flagAddr).run prog w=.ok (.agg #[.pointer (some ⟨6,218,none⟩),.pointer (some p),.int .u64 409]) w:=by kernel_rfl
theorem partsMa (a:Addr) (w:World):(ReflectliteValue.parts (.agg #[.pointer (some ⟨6,218,none⟩),.pointer (some a),.int .u64 409])).run prog w=.ok (some (218,a,409)) w:=by kernel_rfl
theorem partsM (a:Addr) (w:World):(ReflectliteValue.parts (.agg #[.pointer (some ⟨6,218,none⟩),.pointer (some a),.int .u64 153])).run prog w=.ok (some (218,a,153)) w:=by kernel_rfl
theorem directM (w:World):(Rtype.directlyAssignable 218 218).run prog w=.ok true w:=by kernel_rfl
end Go.Proofs.YtahpjlbaagkdoaaGreatDoor
namespace Go.Proofs.YtahpjlbaagkdoaaGreatDoor
open Go.Proofs.Tryz
open Go.RowKit Go.Extern.Stop Go.Stop Go.Extern
theorem start4x (w:World) (a b c d:Obj):((((w.alloc a).alloc b).alloc c).alloc d).heap.size=w.heap.size+1+1+1+1∧((((w.alloc a).alloc b).alloc c).alloc d).heap[w.heap.size]?=some a∧((((w.alloc a).alloc b).alloc c).alloc d).heap[w.heap.size+1]?=some b ∧
  ((((w.alloc a).alloc b).alloc c).alloc d).heap[w.heap.size+1+1]?=some c∧((((w.alloc a).alloc b).alloc c).alloc d).heap[w.heap.size+1+1+1]?=some d∧Below w.heap.size w ((((w.alloc a).alloc b).alloc c).alloc d):=by
 have s1:(w.alloc a).heap.size=w.heap.size+1:=by simp
 have s2:((w.alloc a).alloc b).heap.size=w.heap.size+1+1:=by simp
 have s3:(((w.alloc a).alloc b).alloc c).heap.size=w.heap.size+1+1+1:=by simp
 have e1:=heap_alloc_new w a;have e2:=heap_alloc_new (w.alloc a) b;have e3:=heap_alloc_new ((w.alloc a).alloc b) c;have e4:=heap_alloc_new (((w.alloc a).alloc b).alloc c) d;rw [s1] at e2;rw [s2] at e3;rw [s3] at e4;refine ⟨by simp,?_,?_,?_,e4,((((Below.refl _ _).alloc (Nat.le_refl _) _).alloc (by omega) _).alloc (by omega) _).alloc (by omega) _⟩
 ·rw [Below.heap_alloc _ _ _ (by omega),Below.heap_alloc _ _ _ (by omega),Below.heap_alloc _ _ _ (by omega)];exact e1
 ·rw [Below.heap_alloc _ _ _ (by omega),Below.heap_alloc _ _ _ (by omega)];exact e2
 ·rw [Below.heap_alloc _ _ _ (by omega)];exact e3
theorem isNilP (a p:Addr) (W:World) (ha:W.cell? a=some (.pointer (some p))) :
  (ReflectliteValue.method (ReflectliteValue.valueError "reflectlite.Value.IsNil" 0) ReflectliteValue.isNil #[.agg #[.pointer (some ⟨6, 220, none⟩), .pointer (some a), .int .u64 150]]).run prog W = .ok (.bool false) W := by
 refine (congrArg (fun m=>Sem.run prog m W) (show ReflectliteValue.method _ _ _=(ReflectliteValue.parts (.agg #[.pointer (some ⟨6,220,none⟩),.pointer (some a),.int .u64 150]) >>= _) from rfl)).trans ?_;simp only [Sem.run_bind,partsP,Result.andThen];simp [ReflectliteValue.isNil,loadVar,isAgg,underlying,underlying220,ha,Result.andThen]
theorem elemVP (a p:Addr) (W:World) (ha:W.cell? a=some (.pointer (some p))) :
  (ReflectliteValue.method (ReflectliteValue.valueError "reflectlite.Value.Elem" 0) ReflectliteValue.elem #[.agg #[.pointer (some ⟨6, 220, none⟩), .pointer (some a), .int .u64 150]]).run prog W
   = .ok (.agg #[.pointer (some ⟨6,218,none⟩),.pointer (some p),.int .u64 409]) W:=by
 refine (congrArg (fun m=>Sem.run prog m W) (show ReflectliteValue.method _ _ _=(ReflectliteValue.parts (.agg #[.pointer (some ⟨6,220,none⟩),.pointer (some a),.int .u64 150]) >>= _) from rfl)).trans ?_;simp only [Sem.run_bind,partsP,Result.andThen];simp [ReflectliteValue.elem,loadVar,isAgg,underlying,underlying220,ha,Result.andThen,elemOfP,mkM]
theorem setM (ta b:Nat) (c:Int) (old:Value) (W:World) (hb:W.heap[b]?=some (.cells #[.int .i64 c] 218)) (ht:W.heap[ta]?=some (.cells #[old] 218)) :
  (ReflectliteValue.set #[.agg #[.pointer (some ⟨6,218,none⟩),.pointer (some ⟨ta,0,none⟩),.int .u64 409],.agg #[.pointer (some ⟨6,218,none⟩),.pointer (some ⟨b,0,none⟩),.int .u64 153]]).run prog W
   = .ok (.tuple #[]) (W.setCell ⟨ta,0,none⟩ (.int .i64 c)):=by
 have hi:(prog.info? 218).map (·.size)=some 1:=by kernel_rfl
 have hld:=run_loadVar_row (P:=prog) W b 218 218 #[.int .i64 c] (0,0) _ hb underlying218 rfl hi;have hc:W.cell? ⟨ta,0,none⟩=some old:=by rw [cr ht];rfl
 have hf:W.frozen? ⟨ta,0,none⟩=false:=frz ht 0;refine (congrArg (fun m=>Sem.run prog m W) (show ReflectliteValue.set _=(ReflectliteValue.parts (.agg #[.pointer (some ⟨6,218,none⟩),.pointer (some ⟨ta,0,none⟩),.int .u64 409]) >>= fun r=>ReflectliteValue.parts (.agg #[.pointer (some ⟨6,218,none⟩),.pointer (some ⟨b,0,none⟩),.int .u64 153]) >>= _) from rfl)).trans ?_;simp only [Sem.run_bind,partsMa,partsM,Result.andThen];simp [ReflectliteValue.flagAddr,hld,Result.andThen,directM,storeVar,Value.cells,storeCells,Addr.add];rw [run_store prog W ⟨ta,0,none⟩ _ _ (by rfl)];simp [hc,hf]
theorem as_hit (c:Int) (t:Nat) (old:Value) (w:World) (hg:w.cell? ⟨4,0,none⟩=some (.iface 266 (.agg #[.pointer (some ⟨6,195,none⟩)]))) (ht0:w.heap[t]?=some (.cells #[old] 218)) (hgt:4<t) :
  Calls prog 156 #[.iface 218 (.agg #[.int .i64 c]),.iface 220 (.pointer (some ⟨t,0,none⟩))] w fun ev w'=>ev=.returned (.bool true)∧w'.heap[t]?=some (.cells #[.int .i64 c] 218)∧Nr t w w':=by
 have h1:=@run_callFunc_extern prog 198 _ (fun args=>ReflectliteValue.unpack (args.getD 0 (.tuple #[]))) func198 (by kernel_rfl) (by kernel_rfl) (by kernel_rfl) (by kernel_rfl);have h2 := @run_callFunc_extern prog 199 _ (ReflectliteValue.methodAny (ReflectliteValue.valueError "reflectlite.Value.Type" 0) (fun t _ _ _ => ReflectliteType.toType t)) func199 (by kernel_rfl) (by kernel_rfl) (by kernel_rfl) (by kernel_rfl)
 have h3 := @run_callFunc_extern prog 200 _ (ReflectliteValue.method (ReflectliteValue.valueError "reflectlite.Value.IsNil" 0) ReflectliteValue.isNil) func200 (by kernel_rfl) (by kernel_rfl) (by kernel_rfl) (by kernel_rfl)
 have h4:=@run_callFunc_extern prog 229 _ (ReflectliteType.abiMethod fun t=>do pure (.int .u8 (← Rtype.kind t))) func229 (by kernel_rfl) (by kernel_rfl) (by kernel_rfl) (by kernel_rfl);have h5:=@run_callFunc_extern prog 255 _ (ReflectliteType.method ReflectliteType.elem) func255 (by kernel_rfl) (by kernel_rfl) (by kernel_rfl) (by kernel_rfl);have h6 := @run_callFunc_extern prog 256 _ (ReflectliteType.relation "Implements" ReflectliteType.implements_) func256 (by kernel_rfl) (by kernel_rfl) (by kernel_rfl) (by kernel_rfl)
 have h7:=@run_callFunc_extern prog 208 _ ReflectliteType.typeOf func208 (by kernel_rfl) (by kernel_rfl) (by kernel_rfl) (by kernel_rfl);have h8 := @run_callFunc_extern prog 253 _ (ReflectliteType.relation "AssignableTo" ReflectliteType.assignableTo) func253 (by kernel_rfl) (by kernel_rfl) (by kernel_rfl) (by kernel_rfl)
 have h9 := @run_callFunc_extern prog 209 _ (ReflectliteValue.method (ReflectliteValue.valueError "reflectlite.Value.Elem" 0) ReflectliteValue.elem) func209 (by kernel_rfl) (by kernel_rfl) (by kernel_rfl) (by kernel_rfl)
 have h10:=@run_callFunc_extern prog 210 _ ReflectliteValue.set func210 (by kernel_rfl) (by kernel_rfl) (by kernel_rfl) (by kernel_rfl);have f1:=typeOfM;have f2:=methAssignable;have f3:=assignM;have f4:=valueM;have f5:=valueP;have f6:=typeP;have f7:=methKind;have f8:=methElem;have f9:=methImplements;have f10:=kindP;have f11:=kindM;have f12:=elemT;have f13:=implM;have htl:t<w.heap.size:=(ge.1 ht0).1;have hlt:4<w.heap.size:=Nat.lt_trans hgt htl;have n8:=isNilP ⟨w.heap.size,0,none⟩ ⟨t,0,none⟩ ((w.alloc (.cells #[.pointer (some ⟨t,0,none⟩)] 220)).alloc (.cells #[.pointer (some ⟨6,220,none⟩),.pointer (some ⟨w.heap.size,0,none⟩),.int .u64 150] 248)) (by simp);have hg2:((w.alloc (.cells #[.pointer (some ⟨t,0,none⟩)] 220)).alloc (.cells #[.pointer (some ⟨6,220,none⟩),.pointer (some ⟨w.heap.size,0,none⟩),.int .u64 150] 248)).cell? ⟨4,0,none⟩=some (.iface 266 (.agg #[.pointer (some ⟨6,195,none⟩)])):=by
  rw [World.cell?_alloc_lt _ _ ⟨4,0,none⟩ (by simp<;>omega),World.cell?_alloc_lt _ _ ⟨4,0,none⟩ hlt];exact hg
 have el:=elemVP ⟨w.heap.size,0,none⟩ ⟨t,0,none⟩ (((w.alloc (.cells #[.pointer (some ⟨t,0,none⟩)] 220)).alloc (.cells #[.pointer (some ⟨6,220,none⟩),.pointer (some ⟨w.heap.size,0,none⟩),.int .u64 150] 248)).alloc (.cells #[.pointer (some ⟨6,220,none⟩),.pointer (some ⟨w.heap.size,0,none⟩),.int .u64 150] 248)) (by rw [World.cell?_alloc_lt _ _ ⟨w.heap.size,0,none⟩ (by simp;omega)];simp);obtain ⟨hs,q0,q1,q2,q3,hb⟩:=start4x w (.cells #[.pointer (some ⟨t,0,none⟩)] 220) (.cells #[.pointer (some ⟨6,220,none⟩),.pointer (some ⟨w.heap.size,0,none⟩),.int .u64 150] 248) (.cells #[.pointer (some ⟨6,220,none⟩),.pointer (some ⟨w.heap.size,0,none⟩),.int .u64 150] 248) (.cells #[.int .i64 c] 218);have htW:=(hb.block t htl).trans ht0;have st:=setM t (w.heap.size+1+1+1) c old _ q3 htW;have HT:=hide (And.intro (heap_setCell_same _ _ 0 _ _ (.int .i64 c) htW) (((Nr.refl t w).of_below hb).setCell 0 (.int .i64 c)));clear q0 q1 q2 q3 hb htW hs;go_enter func156,ntmps156
 go_wp2
 refine wp_loop_rounds 1 ?_;rw [rounds_succ];go_wp2
 go_ret
 exact ⟨rfl,(uh HT).1,(uh HT).2⟩
def Et (w:World):Prop:=w.cell? ⟨4,0,none⟩=some (.iface 266 (.agg #[.pointer (some ⟨6,195,none⟩)]))
theorem Et.lt {w:World} (h:Et w):4<w.heap.size:=World.block_lt_of_cell? w _ h
theorem Et.below {n:Nat} {w w':World} (h:Et w) (hb:Below n w w') (hn:4<n):Et w':=(hb.cell (p:=⟨4,0,none⟩) hn).trans h
theorem code_nil (w:World):Calls prog 141 #[.nilIface] w fun e w'=>e=.returned (.int .i64 0)∧Below w.heap.size w w':=by
 go_enter func141,ntmps141
 go_wp2_with fail
 refine (as_nil _ _).mono ?_;rintro e w1 ⟨rfl,rfl⟩;go_wp2
 go_ret
 exact ⟨rfl,(Below.refl _ _).alloc (Nat.le_refl _) _⟩
theorem code_wrong (c:Int) (w:World) (hE:Et w):Calls prog 141 #[wrong c] w fun e w'=>e=.returned (.int .i64 c)∧Below w.heap.size w w':=by
 unfold wrong;have hlt:=hE.lt;have C:=hide (as_hit c w.heap.size (.int .i64 0) (w.alloc (.cells #[.int .i64 0] 218)) (hE.below ((Below.refl _ _).alloc (Nat.le_refl _) _) hlt) (heap_alloc_new w _) hlt);clear hE;go_enter func141,ntmps141
 go_wp2_with fail
 refine (uh C).mono ?_;rintro e w1 ⟨rfl,ht,hn⟩;have hc:w1.cell? ⟨w.heap.size,0,none⟩=some (.int .i64 c):=by rw [cr ht];rfl
 clear ht C;go_wp2
 go_ret
 exact ⟨rfl,((Below.refl _ _).alloc (Nat.le_refl _) _).trans (hn.below (Nat.le_refl _) (by simp))⟩
end Go.Proofs.YtahpjlbaagkdoaaGreatDoor
namespace Go.Proofs.YtahpjlbaagkdoaaGreatDoor
open Go.Proofs.Tryz
open Go.ChangeShapes Go.WideShapes Go.ChangeAt Go.RowKit
theorem et_at : prog.globalNamed "errors.errorType" = some 4 := by kernel_rfl
theorem rt_at : (prog.cutTypes.find? (·.1 == "internal/reflectlite.rtype")).map (·.2) = some 266 := by kernel_rfl
theorem one_row:((List.range 315).filter fun t=>prog.rowNamed t [101,114,114,111,114])=[195]:=by kernel_rfl
theorem types_size:prog.types.size=315:=by kernel_rfl
def laidEt : List (String × DataW Unit) := [("errors.errorType", Rows.laid_errors_errorType)]
theorem et_of {W:World} (h:laidMetH prog laidEt W):Et W:=by
 have h':laidMet prog [] W∧handlesMet prog laidEt W:=h;obtain ⟨name,u,ty,e1,e2,e3,e4,e5⟩:=h'.2 _ (List.mem_singleton.2 rfl);have en:name=[101,114,114,111,114]:=(Option.some.inj e1).symm;subst en;obtain rfl:=Option.some.inj (rt_at.symm.trans e2);have hm:ty ∈ (List.range 315).filter fun t=>prog.rowNamed t [101,114,114,111,114]:=List.mem_filter.2 ⟨List.mem_range.2 (by rw [← types_size];exact e3),e4⟩
 rw [one_row] at hm;obtain rfl:=List.mem_singleton.1 hm;have hh:typeHandle prog 195=.pointer (some ⟨6,195,none⟩):=by kernel_rfl
 rw [hh] at e5;have:=World.var?_cell et_at e5 0
 exact this
noncomputable def startEt (os:Os):World :=
 let w0:=World.holding prog os ⟨#[],#[],[]⟩
 { w0 with heap:=w0.heap.modify 4 fun
   | .cells _ t frozen=>.cells #[.iface 266 (.agg #[.pointer (some ⟨6,195,none⟩)])] t frozen
   | o=>o }
end Go.Proofs.YtahpjlbaagkdoaaGreatDoor
namespace Go.Proofs.YtahpjlbaagkdoaaGreatDoor
open Go.Proofs.Tryz
open Go.ChangeShapes Go.WideShapes Go.ChangeAt Go.RowKit
def laidEh:List (String × DataW Unit):=Rows.fnExactEndHearRow.laid
def laidD : List (String × DataW Unit) := [("unicode.White_Space", Rows.laid_unicode_White_Space), ("strings.asciiSpace", Rows.laid_strings_asciiSpace), ("loop.example/g00351/impl.eventNames", Rows.laid_loop_example_g00351_impl_eventNames), ("loop.example/g00351/impl.nextStates", Rows.laid_loop_example_g00351_impl_nextStates)]
theorem tabs_ofE {W:World} (hL:laidMetH prog laidEh W):EvT W∧NxT W∧SpT W∧Et W:=by
 have h':laidMet prog laidD W∧handlesMet prog laidEt W:=hL;obtain ⟨hd,hh⟩:=h';refine ⟨evT_of (Lib.laidMet.reads hd (.tail _ (.tail _ (.head _)))),nxT_of (Lib.laidMet.reads hd (.tail _ (.tail _ (.tail _ (.head _))))),spT_of (Lib.laidMet.reads hd (.tail _ (.head _))),et_of (W:=W) ?_⟩;have h2:laidMet prog [] W∧handlesMet prog laidEt W:=⟨⟨[],rfl,List.nodup_nil,fun _ _ h=>by cases h⟩,hh⟩;exact h2
noncomputable def startEh (os:Os):World:=(startEt os).layVars prog laidD
theorem startEh_os (os:Os):(startEh os).os=os:=World.layVars_os _ _ _
theorem startEh_data (os:Os):laidMet prog laidD (startEh os):=by
 have e1:(laidD.filter fun x=>(laidD.map (·.1)).contains x.1)=laidD:=List.filter_eq_self.2 fun x hx=>List.contains_iff_mem.2 (List.mem_map.2 ⟨x,hx,rfl⟩)
 have e2:(laidD.filter fun x=>!(laidD.map (·.1)).contains x.1)=[]:=List.filter_eq_nil_iff.2 fun x hx=>by rw [List.contains_iff_mem.2 (List.mem_map.2 ⟨x,hx,rfl⟩)];simp
 exact laidMet_layVars (w0:=startEt os) (laidD.map (·.1)) [] (by rw [e1];rfl) (by rw [e1];kernel_rfl) (by rw [e1];kernel_rfl) (by rw [e2];exact LaidIn.none)
theorem startEh_met (os:Os) (args:Array Value):laidMetH prog laidEh ((startEh os).forCall (fun _ _=>0) ⟨#[],args,[]⟩).memory:=by
 refine laidMetH_of_parts ?_ (by kernel_rfl);have h:laidMet prog laidD ((startEh os).forCall (fun _ _=>0) ⟨#[],args,[]⟩).memory:=(startEh_data os).of_heap (by simp [World.memory,World.forCall,Input.heap]);exact h
end Go.Proofs.YtahpjlbaagkdoaaGreatDoor
namespace Go.Proofs.YtahpjlbaagkdoaaGreatDoor
open Go.RowKit Go.Proofs.Tryz
theorem byteR (x:Int) (w:World):Calls prog 80 #[.int .i64 x] w fun e w'=>e=.returned (.bool (decide (0≤x) && decide (x≤255)))∧w'=w:=by
 by_cases h1:0≤x
 ·have d1:decide ((0:Int)≤x)=true:=decide_eq_true h1;rw [d1,Bool.true_and];go_enter func80,ntmps80
  go_wp2
  go_ret
  exact ⟨rfl,rfl⟩
 ·have d1:decide ((0:Int)≤x)=false:=decide_eq_false h1;rw [d1,Bool.false_and];go_enter func80,ntmps80
  go_wp2
  go_ret
  exact ⟨rfl,rfl⟩
theorem specIs255 (x y:Int) (w:World):Calls prog 72 #[.int .i64 x,.int .i64 y,.int .i64 255] w fun e w'=>e=.returned (.bool (decide (y≤x) && decide (x≤255)))∧w'=w:=by
 by_cases h1:y≤x
 ·have d1:decide (y≤x)=true:=decide_eq_true h1;rw [d1,Bool.true_and];go_enter func72,ntmps72
  go_wp2
  go_ret
  exact ⟨rfl,rfl⟩
 ·have d1:decide (y≤x)=false:=decide_eq_false h1;rw [d1,Bool.false_and];go_enter func72,ntmps72
  go_wp2
  go_ret
  exact ⟨rfl,rfl⟩
end Go.Proofs.YtahpjlbaagkdoaaGreatDoor
namespace Go.Proofs.YtahpjlbaagkdoaaGreatDoor
open Go.RowKit Go.Proofs.Tryz
def ocells (fs:List Op.Opt):List Value:=fs.flatMap fun f=>[.int .i64 f.kind,.string f.data]
theorem ocells_len (fs:List Op.Opt):(ocells fs).length=fs.length*2:=by
 induction fs with
 | nil=>rfl
 | cons f fs ih=>simp [ocells] at ih ⊢;omega
theorem ocells_append (fs gs:List Op.Opt):ocells (fs ++ gs)=ocells fs ++ ocells gs:=by simp [ocells]
theorem ocells_get (fs:List Op.Opt) (i:Nat) (f:Op.Opt) (h:fs[i]?=some f):(ocells fs)[i*2]?=some (.int .i64 f.kind)∧(ocells fs)[i*2+1]?=some (.string f.data):=by
 induction fs generalizing i with
 | nil=>simp at h
 | cons d fs ih =>
  cases i with
  | zero =>
   simp at h;subst h;exact ⟨rfl,rfl⟩
  | succ i =>
   have:=ih i (by simpa using h)
   have e:ocells (d :: fs)=.int .i64 d.kind :: .string d.data :: ocells fs:=rfl;rw [e,show (i+1)*2=i*2+2 by omega];exact this
theorem oinfo:∃ i,prog.info? 116=some i∧i.zero=some (.agg #[.int .i64 0,.string ⟨#[]⟩])∧i.size=2∧i.bytes=24:=by
 have h:(prog.info? 116).map (fun i=>(i.zero,i.size,i.bytes))=some (some (.agg #[.int .i64 0,.string ⟨#[]⟩]),2,24):=by kernel_rfl
 obtain ⟨i,hi,hzz⟩:=Option.map_eq_some_iff.1 h;simp only [Prod.mk.injEq] at hzz;exact ⟨i,hi,hzz.1,hzz.2.1,hzz.2.2⟩
def HoldsO (w:World) (v:Value) (F:List Op.Opt):Prop :=
 (∃ ad cp,v=.slice ad 0 cp∧F=[])∨∃ g cp cur,v=.slice (some ⟨g,0,none⟩) F.length cp∧w.heap[g]?=some (.cells cur 116)∧F.length*2≤cur.size∧∀ j,j<F.length*2→cur[j]?=(ocells F)[j]?
theorem HoldsO.own {w:World} {base:Nat} {v:Value} {F:List Op.Opt} (h:w.ownsRow base 116 2 v F.length (ocells F)):HoldsO w v F:=by
 rcases h.2 with ⟨h1,h2⟩ | ⟨g,cap,cur,h1,_,h3,h4,_,h6,h7⟩
 ·exact Or.inl ⟨_,_,h1,List.eq_nil_of_length_eq_zero h2⟩
 ·refine Or.inr ⟨g,cap,cur,h1,h3,by rw [h6];omega,fun j hj=>?_⟩;rw [← h7,List.getElem?_take,if_pos hj,Array.getElem?_toList]
theorem HoldsO.below {n:Nat} {w w':World} {v:Value} {F:List Op.Opt} (h:HoldsO w v F) (hb:Below n w w') (hn:n=w.heap.size):HoldsO w' v F:=by
 subst hn;exact h.imp id fun ⟨g,cp,cur,h1,h2,h3⟩=>⟨g,cp,cur,h1,(hb.block g (ge.1 h2).1).trans h2,h3⟩
theorem HoldsO.form {w:World} {v:Value} {F:List Op.Opt} (h:HoldsO w v F):∃ ad cp,v=.slice ad F.length cp:=by
 rcases h with ⟨ad,cp,h1,h2⟩ | ⟨g,cp,cur,h1,_⟩
 ·exact ⟨ad,cp,by rw [h1,h2];rfl⟩
 ·exact ⟨_,_,h1⟩
theorem holdsO_nil (w:World) (ad:Option Addr) (cp:Nat):HoldsO w (.slice ad 0 cp) []:=Or.inl ⟨ad,cp,rfl,rfl⟩
theorem ok_ways (o:Op.Opt) (P:Prop) (h1:o.kind<1→Op.ok o=false→P) (h2:1≤o.kind→255<o.kind→Op.ok o=false→P) (h3:1≤o.kind→o.kind≤255→20<o.data.size→Op.ok o=false→P)
  (h4:1≤o.kind→o.kind≤255→o.data.size≤20→Op.ok o=true→P):P:=by
 by_cases a:1≤o.kind
 ·by_cases b:o.kind≤255
  ·by_cases c:o.data.size≤20
   ·exact h4 a b c (decide_eq_true ⟨a,b,c⟩)
   ·exact h3 a b (by omega) (decide_eq_false (by omega))
  ·exact h2 a (by omega) (decide_eq_false (by omega))
 ·exact h1 (by omega) (decide_eq_false (by omega))
theorem right_false {F:List Op.Opt} {k:Nat} (hk:k<F.length) (h:Op.ok F[k]=false):Op.right F=false:=by
 rw [← Bool.not_eq_true];intro hr;have:=Op.right_all hr F[k] (List.getElem_mem hk)
 rw [h] at this;cases this
theorem right_true {F:List Op.Opt} (hl:F.length≤20) (h:∀ k (hk:k<F.length),Op.ok F[k]=true):Op.right F=true:=by
 refine Op.right_mk hl fun o ho=>?_
 obtain ⟨k,hk,rfl⟩:=List.getElem_of_mem ho;exact h k hk
theorem right_long {F:List Op.Opt} (hl:20<F.length):Op.right F=false:=by
 rw [← Bool.not_eq_true];intro hr;have:=Op.right_len hr
 omega
theorem implRight0 (ad:Option Addr) (cp:Nat) (w:World):Calls prog 112 #[.slice ad 0 cp] w fun e w'=>e=.returned (.bool true)∧Below w.heap.size w w':=by
 go_enter func112,ntmps112
 go_wp2_with fail
 go_loopw [10] (fun y wr=>y=.int .i64 0∧wr=w) (fun _ _=>0)
 case atStart=>exact ⟨rfl,rfl⟩
 case round =>
  obtain ⟨rfl,rfl⟩:=hrel;go_wp2
  go_ret
  exact ⟨rfl,Below.refl _ _⟩
theorem implRightG (g cp:Nat) (F:List Op.Opt) (cur:Array Value) (w:World) (hm:F.length≤maxLen) (h1:w.heap[g]?=some (.cells cur 116)) (a1:∀ j,j<F.length*2→cur[j]?=(ocells F)[j]?) :
  Calls prog 112 #[.slice (some ⟨g,0,none⟩) F.length cp] w fun e w'=>e=.returned (.bool (Op.right F))∧Below w.heap.size w w':=by
 unfold maxLen at hm;have hl1:g<w.heap.size:=(ge.1 h1).1;obtain ⟨n,hn⟩:∃ n,F.length=n:=⟨_,rfl⟩;by_cases h20:20<n
 ·have d0:(20:Int)<(n:Int):=by omega
  rw [right_long (by omega),hn];go_enter func112,ntmps112
  go_wp2
  go_ret
  exact ⟨rfl,Below.refl _ _⟩
 ·have d0:¬ ((20:Int)<(n:Int)):=by omega
  have HA:Hid (∀ i (hi:i<n),cur[i*2]?=some (.int .i64 (F[i]'(by omega)).kind)∧cur[i*2+1]?=some (.string (F[i]'(by omega)).data)):=by
   refine hide fun i hi=>?_
   have q:=ocells_get F i (F[i]'(by omega)) (List.getElem?_eq_getElem (by omega));exact ⟨(a1 _ (by omega)).trans q.1,(a1 _ (by omega)).trans q.2⟩
  have HT:Hid ((∀ k (hk:k<n),Op.ok (F[k]'(by omega))=true)→Op.right F=true):=hide fun h=>right_true (by omega) fun k hk=>h k (by omega)
  have HF:Hid (∀ k (hk:k<n),Op.ok (F[k]'(by omega))=false→Op.right F=false):=hide fun k hk h=>right_false (by omega) h
  rw [hn];clear a1 hm;generalize Op.right F=RT at *;go_enter func112,ntmps112
  go_wp2_with fail
  go_loopw [10] (fun y wr=>∃ (i:Nat),i≤n∧y=.int .i64 i∧(∀ k (hk:k<i) (hkn:k<n),Op.ok (F[k]'(by omega))=true)∧Below w.heap.size w wr) (fun y _=>n - (intOf y).toNat)
  case atStart=>exact ⟨0,Nat.zero_le _,rfl,fun k hk=>by omega,Below.refl _ _⟩
  case round =>
   obtain ⟨i,hi,rfl,hall,hb⟩:=hrel;have hbs:=hb.size;by_cases hlt:i<n
   ·have d1:(i:Int)<(n:Int):=by omega
    obtain ⟨q1,q2⟩:=uh HA i hlt;have e1:=(hb.block g hl1).trans h1;have hf:=uh HF i hlt;have hall2:Op.ok (F[i]'(by omega))=true→∀ k (hk:k<i+1) (hkn:k<n),Op.ok (F[k]'(by omega))=true:=by
     intro h k hk hkn;rcases Nat.lt_or_ge k i with hk2 | hk2
     ·exact hall k hk2 hkn
     ·have:k=i:=by omega
      subst this;exact h
    generalize hO:F[i]'(by omega)=o at *;have k0:wr.cell? ⟨g,i*2,none⟩=some (.int .i64 o.kind):=by rw [cr e1];exact q1
    have k1:wr.cell? ⟨g,i*2+1,none⟩=some (.string o.data):=by rw [cr e1];exact q2
    have HAL:=hide hall2;have HFF:=hide hf;have C:=hide fun v=>byteR o.kind v
    obtain ⟨kd,dt⟩:=o;dsimp only at k0 k1 C;clear q1 q2 e1 hall hall2 hf hO HA HT HF h1;refine ok_ways ⟨kd,dt⟩ _ (fun a r=>?_) (fun a b r=>?_) (fun a b c r=>?_) (fun a b c r=>?_);all_goals dsimp only at *
    ·have f1:decide (kd<1)=true:=decide_eq_true a;have hR:=uh HFF r;subst hR;clear HFF HAL r a;go_wp2
     go_ret
     exact ⟨rfl,hb.alloc hbs _⟩
    ·have f1:decide (kd<1)=false:=decide_eq_false (by omega);have hR:=uh HFF r;subst hR;rw [show (decide (0≤kd) && decide (kd≤255))=false by simp;omega] at C;clear HFF HAL r a b;go_wp2_with (first | (go_at_call 80;refine (uh C _).mono ?_;rintro e w2 ⟨rfl,rfl⟩))
     go_ret
     exact ⟨rfl,hb.alloc hbs _⟩
    ·have f1:decide (kd<1)=false:=decide_eq_false (by omega);have f2:decide ((20:Int)<(dt.size:Int))=true:=decide_eq_true (by omega);have hR:=uh HFF r;subst hR;rw [show (decide (0≤kd) && decide (kd≤255))=true by simp;omega] at C;clear HFF HAL r a b c;go_wp2_with (first | (go_at_call 80;refine (uh C _).mono ?_;rintro e w2 ⟨rfl,rfl⟩))
     go_ret
     exact ⟨rfl,hb.alloc hbs _⟩
    ·have f1:decide (kd<1)=false:=decide_eq_false (by omega);have f2:decide ((20:Int)<(dt.size:Int))=false:=decide_eq_false (by omega);have hR:=uh HAL r;have HR:=hide hR;rw [show (decide (0≤kd) && decide (kd≤255))=true by simp;omega] at C;clear HFF HAL r a b c hR;go_wp2_with (first | (go_at_call 80;refine (uh C _).mono ?_;rintro e w2 ⟨rfl,rfl⟩))
     go_roundw
     case rel=>exact ⟨i+1,by omega,by go_num,uh HR,hb.alloc hbs _⟩
     case measure=>simp [intOf];omega
   ·have e:i=n:=by omega
    subst e;have d1:¬ ((i:Int)<(i:Int)):=by omega
    have hR:=uh HT fun k hk=>hall k hk hk
    subst hR;go_wp2
    go_ret
    exact ⟨rfl,hb⟩
theorem implRightAll (v:Value) (F:List Op.Opt) (w:World) (hm:F.length≤maxLen) (h:HoldsO w v F) :
  Calls prog 112 #[v] w fun e w'=>e=.returned (.bool (Op.right F))∧Below w.heap.size w w':=by
 rcases h with ⟨ad,cp,rfl,rfl⟩ | ⟨g,cp,cur,rfl,h2,_,h4⟩
 ·exact implRight0 ad cp w
 ·exact implRightG g cp F cur w hm h2 h4
end Go.Proofs.YtahpjlbaagkdoaaGreatDoor
namespace Go.Proofs.YtahpjlbaagkdoaaGreatDoor
open Go.RowKit Go.Proofs.Tryz
end Go.Proofs.YtahpjlbaagkdoaaGreatDoor
namespace Go.Proofs.YtahpjlbaagkdoaaGreatDoor
open Go.RowKit Go.Proofs.Tryz
abbrev fnV (f:Nat):Value:=.func (.func f) #[] #[]
abbrev ruleV (k:Int) (a b c d e:Nat):Value:=.agg #[.int .i64 k,fnV a,fnV b,fnV c,fnV d,fnV e]
theorem put_at (w:World) (M:Nat) (es:Array MapEntry) (c:Nat) (k:Int) (v:Value) (hb:w.heap[M]?=some (.map es c)) (hf:Instr.findNow (.int .i64) (.int .i64 k) es.toList 0=some none) :
  ∃ W,(Instr.mapUpdate 177 (.map (some M)) (.int .i64 k) v).run prog w=.ok () W∧W.heap[M]?=some (.map (es.push { key:=.int .i64 k,val:=v,born:=c }) (c+1))∧(∀ B,B≤M→Below B w W):=by
 refine ⟨{ w with heap:=w.heap.setIfInBounds M (.map (es.push { key:=.int .i64 k,val:=v,born:=c }) (c+1)) },?_,(MapKept.heap_set hb).1,fun B hB=>⟨rfl,rfl,rfl,?_,fun g hg=>(MapKept.heap_set hb).2 g (by omega)⟩⟩
 ·unfold Instr.mapUpdate;simp only [Sem.run_bind,run_underlying underlying177,MapKept.run_getObj_map hb,MapKept.run_checkKey underlying2 (d:=.int .i64) (k:=.int .i64 k) (by trivial),MapKept.run_findKey underlying2 hf,Result.andThen];rw [MapKept.run_setObj_map _ hb]
 ·simp
theorem look_at (w:World) (M:Nat) (es:Array MapEntry) (c i:Nat) (k:Int) (v:Value) (hb:w.heap[M]?=some (.map es c)) (hf:Instr.findNow (.int .i64) (.int .i64 k) es.toList 0=some (some (i,v))) :
  (Instr.lookup 177 (.map (some M)) (.int .i64 k) false).run prog w=.ok v w:=by
 unfold Instr.lookup;simp only [Sem.run_bind,Sem.run_pure,run_underlying underlying177,MapKept.run_getObj_map hb,MapKept.run_checkKey underlying2 (d:=.int .i64) (k:=.int .i64 k) (by trivial),MapKept.run_findKey underlying2 hf,Result.andThen];rfl
theorem mruRule (w:World):Calls prog 145 #[] w fun e w'=>e=.returned (ruleV 2 163 164 166 167 168)∧Below w.heap.size w w':=by
 go_enter func145,ntmps145
 go_wp2
 refine bodyPost_ret (v:=(ruleV 2 163 164 166 167 168)) (by simp [results,results145,go_sem]) rfl ⟨rfl,?_⟩;exact (Below.refl _ _).alloc (Nat.le_refl _) _
theorem accmRule (w:World):Calls prog 146 #[] w fun e w'=>e=.returned (ruleV 4 169 170 171 172 173)∧Below w.heap.size w w':=by
 go_enter func146,ntmps146
 go_wp2
 refine bodyPost_ret (v:=(ruleV 4 169 170 171 172 173)) (by simp [results,results146,go_sem]) rfl ⟨rfl,?_⟩;exact (Below.refl _ _).alloc (Nat.le_refl _) _
theorem magicRule (w:World):Calls prog 147 #[] w fun e w'=>e=.returned (ruleV 4 174 175 177 178 179)∧Below w.heap.size w w':=by
 go_enter func147,ntmps147
 go_wp2
 refine bodyPost_ret (v:=(ruleV 4 174 175 177 178 179)) (by simp [results,results147,go_sem]) rfl ⟨rfl,?_⟩;exact (Below.refl _ _).alloc (Nat.le_refl _) _
theorem pfcRule (w:World):Calls prog 148 #[] w fun e w'=>e=.returned (ruleV 0 180 181 182 183 184)∧Below w.heap.size w w':=by
 go_enter func148,ntmps148
 go_wp2
 refine bodyPost_ret (v:=(ruleV 0 180 181 182 183 184)) (by simp [results,results148,go_sem]) rfl ⟨rfl,?_⟩;exact (Below.refl _ _).alloc (Nat.le_refl _) _
theorem acfcRule (w:World):Calls prog 149 #[] w fun e w'=>e=.returned (ruleV 0 185 186 187 188 189)∧Below w.heap.size w w':=by
 go_enter func149,ntmps149
 go_wp2
 refine bodyPost_ret (v:=(ruleV 0 185 186 187 188 189)) (by simp [results,results149,go_sem]) rfl ⟨rfl,?_⟩;exact (Below.refl _ _).alloc (Nat.le_refl _) _
theorem fcsRule (w:World):Calls prog 150 #[] w fun e w'=>e=.returned (ruleV 1 190 191 192 193 194)∧Below w.heap.size w w':=by
 go_enter func150,ntmps150
 go_wp2
 refine bodyPost_ret (v:=(ruleV 1 190 191 192 193 194)) (by simp [results,results150,go_sem]) rfl ⟨rfl,?_⟩;exact (Below.refl _ _).alloc (Nat.le_refl _) _
def rules:Array MapEntry:=#[{ key:=.int .i64 1,val:=(ruleV 2 163 164 166 167 168),born:=0 },{ key:=.int .i64 2,val:=(ruleV 4 169 170 171 172 173),born:=1 },{ key:=.int .i64 5,val:=(ruleV 4 174 175 177 178 179),born:=2 },{ key:=.int .i64 7,val:=(ruleV 0 180 181 182 183 184),born:=3 },{ key:=.int .i64 8,val:=(ruleV 0 185 186 187 188 189),born:=4 },{ key:=.int .i64 9,val:=(ruleV 1 190 191 192 193 194),born:=5 }]
theorem optionRules (w:World):Calls prog 133 #[] w fun e w'=>e=.returned (.map (some w.heap.size))∧w'.heap[w.heap.size]?=some (.map rules 6)∧Below w.heap.size w w':=by
 have hmm:=@run_makeMap prog;have hb0:=(Below.refl w.heap.size w).alloc (Nat.le_refl _) (.map #[] 0);have hm0:(w.alloc (.map #[] 0)).heap[w.heap.size]?=some (.map #[] 0):=heap_alloc_last w _;have hl0:(w.alloc (.map #[] 0)).heap.size=w.heap.size+1:=by simp
 go_enter func133,ntmps133
 go_wp2_with fail
 refine (mruRule _).mono ?_;rintro e v1 ⟨rfl,hc1⟩;have hn1:=(hc1.block w.heap.size (ge.1 hm0).1).trans hm0;have hd1:=hb0.trans (hc1.mono hb0.size);obtain ⟨w1,hp1,hm1,hq1⟩:=put_at v1 w.heap.size #[] 0 1 (ruleV 2 163 164 166 167 168) hn1 rfl;have hb1:=hd1.trans (hq1 _ (Nat.le_refl _));simp only [List.push_toArray,List.nil_append] at hm1;clear hc1 hn1 hd1 hq1 hb0 hm0;go_wp2_with fail
 refine (accmRule _).mono ?_;rintro e v2 ⟨rfl,hc2⟩;have hn2:=(hc2.block w.heap.size (ge.1 hm1).1).trans hm1;have hd2:=hb1.trans (hc2.mono hb1.size);obtain ⟨w2,hp2,hm2,hq2⟩:=put_at v2 w.heap.size #[{ key:=.int .i64 1,val:=(ruleV 2 163 164 166 167 168),born:=0 }] 1 2 (ruleV 4 169 170 171 172 173) hn2 rfl;have hb2:=hd2.trans (hq2 _ (Nat.le_refl _));simp only [List.push_toArray,List.cons_append,List.nil_append] at hm2;clear hc2 hn2 hd2 hq2 hb1 hm1;go_wp2_with fail
 refine (magicRule _).mono ?_;rintro e v3 ⟨rfl,hc3⟩;have hn3:=(hc3.block w.heap.size (ge.1 hm2).1).trans hm2;have hd3:=hb2.trans (hc3.mono hb2.size);obtain ⟨w3,hp3,hm3,hq3⟩:=put_at v3 w.heap.size #[{ key:=.int .i64 1,val:=(ruleV 2 163 164 166 167 168),born:=0 },{ key:=.int .i64 2,val:=(ruleV 4 169 170 171 172 173),born:=1 }] 2 5 (ruleV 4 174 175 177 178 179) hn3 rfl;have hb3:=hd3.trans (hq3 _ (Nat.le_refl _));simp only [List.push_toArray,List.cons_append,List.nil_append] at hm3;clear hc3 hn3 hd3 hq3 hb2 hm2;go_wp2_with fail
 refine (pfcRule _).mono ?_;rintro e v4 ⟨rfl,hc4⟩;have hn4:=(hc4.block w.heap.size (ge.1 hm3).1).trans hm3;have hd4:=hb3.trans (hc4.mono hb3.size);obtain ⟨w4,hp4,hm4,hq4⟩:=put_at v4 w.heap.size #[{ key:=.int .i64 1,val:=(ruleV 2 163 164 166 167 168),born:=0 },{ key:=.int .i64 2,val:=(ruleV 4 169 170 171 172 173),born:=1 },{ key:=.int .i64 5,val:=(ruleV 4 174 175 177 178 179),born:=2 }] 3 7 (ruleV 0 180 181 182 183 184) hn4 rfl;have hb4:=hd4.trans (hq4 _ (Nat.le_refl _));simp only [List.push_toArray,List.cons_append,List.nil_append] at hm4;clear hc4 hn4 hd4 hq4 hb3 hm3;go_wp2_with fail
 refine (acfcRule _).mono ?_;rintro e v5 ⟨rfl,hc5⟩;have hn5:=(hc5.block w.heap.size (ge.1 hm4).1).trans hm4;have hd5:=hb4.trans (hc5.mono hb4.size);obtain ⟨w5,hp5,hm5,hq5⟩:=put_at v5 w.heap.size #[{ key:=.int .i64 1,val:=(ruleV 2 163 164 166 167 168),born:=0 },{ key:=.int .i64 2,val:=(ruleV 4 169 170 171 172 173),born:=1 },{ key:=.int .i64 5,val:=(ruleV 4 174 175 177 178 179),born:=2 },{ key:=.int .i64 7,val:=(ruleV 0 180 181 182 183 184),born:=3 }] 4 8 (ruleV 0 185 186 187 188 189) hn5 rfl;have hb5:=hd5.trans (hq5 _ (Nat.le_refl _));simp only [List.push_toArray,List.cons_append,List.nil_append] at hm5;clear hc5 hn5 hd5 hq5 hb4 hm4;go_wp2_with fail
 refine (fcsRule _).mono ?_;rintro e v6 ⟨rfl,hc6⟩;have hn6:=(hc6.block w.heap.size (ge.1 hm5).1).trans hm5;have hd6:=hb5.trans (hc6.mono hb5.size);obtain ⟨w6,hp6,hm6,hq6⟩:=put_at v6 w.heap.size #[{ key:=.int .i64 1,val:=(ruleV 2 163 164 166 167 168),born:=0 },{ key:=.int .i64 2,val:=(ruleV 4 169 170 171 172 173),born:=1 },{ key:=.int .i64 5,val:=(ruleV 4 174 175 177 178 179),born:=2 },{ key:=.int .i64 7,val:=(ruleV 0 180 181 182 183 184),born:=3 },{ key:=.int .i64 8,val:=(ruleV 0 185 186 187 188 189),born:=4 }] 5 9 (ruleV 1 190 191 192 193 194) hn6 rfl;have hb6:=hd6.trans (hq6 _ (Nat.le_refl _));simp only [List.push_toArray,List.cons_append,List.nil_append] at hm6;clear hc6 hn6 hd6 hq6 hb5 hm5;go_wp2
 go_ret
 exact ⟨rfl,hm6,hb6⟩
end Go.Proofs.YtahpjlbaagkdoaaGreatDoor
