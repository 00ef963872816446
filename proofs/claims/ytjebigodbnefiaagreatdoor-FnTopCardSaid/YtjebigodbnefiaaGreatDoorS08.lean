/- AsErr EndOk Dfr -/
import Derived.Stop.Asserts
import Derived.Test.YtjebigodbnefiaaGreatDoorS05
import Derived.Test.YtjebigodbnefiaaGreatDoorS03
import Derived.Test.YtjebigodbnefiaaGreatDoorS04
set_option maxHeartbeats 1000000
namespace Go.Proofs.YtjebigodbnefiaaGreatDoor
open Go.Proofs.Tryz
open Go.RowKit Go.Extern.Stop Go.Stop Go.Extern
theorem ue (t:Value) (w:World):Calls prog 180 #[.nilIface,t] w fun e w'=>e=.returned (.bool false)∧w'=w:=by
 go_enter func180,ntmps180
 go_wp2
 go_ret
 exact ⟨rfl,rfl⟩
theorem uf (t:Addr) (w:World):(ReflectliteValue.unpack (.iface 259 (.pointer (some t)))).run prog w
  = .ok (.agg #[.pointer (some ⟨21,259,none⟩),.pointer (some ⟨w.heap.size,0,none⟩),.int .u64 150]) (w.alloc (.cells #[.pointer (some t)] 259)):=by kernel_rfl
theorem vI (a : Addr) (w : World) : (ReflectliteValue.methodAny (ReflectliteValue.valueError "reflectlite.Value.Type" 0) (fun t _ _ _ => ReflectliteType.toType t) #[.agg #[.pointer (some ⟨21, 259, none⟩), .pointer (some a), .int .u64 150]]).run prog w
  = .ok (.iface 151 (.agg #[.pointer (some ⟨21,259,none⟩)])) w:=by kernel_rfl
theorem pq (h : Value) (w : World) : (Go.method 472 151 (.agg #[h]) "Kind").run prog w = .ok (242, h) w := by kernel_rfl
theorem pr (h : Value) (w : World) : (Go.method 472 151 (.agg #[h]) "Elem").run prog w = .ok (251, .agg #[h]) w := by kernel_rfl
theorem iQ (h : Value) (w : World) : (Go.method 472 151 (.agg #[h]) "Implements").run prog w = .ok (252, .agg #[h]) w := by kernel_rfl
theorem iR (h : Value) (w : World) : (Go.method 472 151 (.agg #[h]) "AssignableTo").run prog w = .ok (249, .agg #[h]) w := by kernel_rfl
theorem vJ (w:World):((ReflectliteType.abiMethod fun t=>Functor.map (fun a:Nat=>Value.int IntKind.u8 (a:Int)) (Rtype.kind t)) #[.pointer (some ⟨21,259,none⟩)]).run prog w=.ok (.int .u8 22) w:=by kernel_rfl
theorem vK (w:World):((ReflectliteType.abiMethod fun t=>Functor.map (fun a:Nat=>Value.int IntKind.u8 (a:Int)) (Rtype.kind t)) #[.pointer (some ⟨21,257,none⟩)]).run prog w=.ok (.int .u8 25) w:=by kernel_rfl
theorem pt (a:Addr) (w:World):(ReflectliteValue.parts (.agg #[.pointer (some ⟨21,259,none⟩),.pointer (some a),.int .u64 150])).run prog w=.ok (some (259,a,150)) w:=by kernel_rfl
theorem vL (w:World):(ReflectliteType.method ReflectliteType.elem #[.agg #[.pointer (some ⟨21,259,none⟩)]]).run prog w=.ok (.iface 151 (.agg #[.pointer (some ⟨21,257,none⟩)])) w:=by kernel_rfl
theorem vM (w : World) : (ReflectliteType.relation "Implements" ReflectliteType.implements_ #[.agg #[.pointer (some ⟨21, 257, none⟩)], .iface 151 (.agg #[.pointer (some ⟨21, 91, none⟩)])]).run prog w = .ok (.bool true) w := by kernel_rfl
theorem rO (v:Value) (w:World):(ReflectliteType.typeOf #[.iface 257 v]).run prog w=.ok (.iface 151 (.agg #[.pointer (some ⟨21,257,none⟩)])) w:=by kernel_rfl
theorem rP (w : World) : (ReflectliteType.relation "AssignableTo" ReflectliteType.assignableTo #[.agg #[.pointer (some ⟨21, 257, none⟩)], .iface 151 (.agg #[.pointer (some ⟨21, 257, none⟩)])]).run prog w = .ok (.bool true) w := by kernel_rfl
theorem ug (c:Int) (w:World):(ReflectliteValue.unpack (.iface 257 (.agg #[.int .i64 c]))).run prog w
  = .ok (.agg #[.pointer (some ⟨21,257,none⟩),.pointer (some ⟨w.heap.size,0,none⟩),.int .u64 153]) (w.alloc (.cells #[.int .i64 c] 257)):=by kernel_rfl
theorem rQ (w:World):(Rtype.elem? 259).run prog w=.ok (some 257) w:=by kernel_rfl
theorem mkM (p:Addr) (w:World):(ReflectliteValue.mk 257 p ReflectliteValue.flagAddr).run prog w=.ok (.agg #[.pointer (some ⟨21,257,none⟩),.pointer (some p),.int .u64 409]) w:=by kernel_rfl
theorem rR (a:Addr) (w:World):(ReflectliteValue.parts (.agg #[.pointer (some ⟨21,257,none⟩),.pointer (some a),.int .u64 409])).run prog w=.ok (some (257,a,409)) w:=by kernel_rfl
theorem uj (a:Addr) (w:World):(ReflectliteValue.parts (.agg #[.pointer (some ⟨21,257,none⟩),.pointer (some a),.int .u64 153])).run prog w=.ok (some (257,a,153)) w:=by kernel_rfl
theorem rS (w:World):(Rtype.directlyAssignable 257 257).run prog w=.ok true w:=by kernel_rfl
end Go.Proofs.YtjebigodbnefiaaGreatDoor
namespace Go.Proofs.YtjebigodbnefiaaGreatDoor
open Go.RowKit Go.Proofs.Tryz
def cC (F:List Op.Opt):Bool:=Op.right F && decide ((Op.bytes F).length≤250)
def gj (st:Int):Bool:=decide (4≤st) && decide (st≤8)
def dQ (m a:Int) (p c d:Bool) (x:Ln):Bool:=m == (x.m:Int) && (a == (x.a:Int) && (p == x.p && (c == x.c && d == x.d)))
def dJ (e:En) (F1 F2:List Op.Opt):Bool :=
 aK e.m1 e.a1 e.g1 && (aK e.m2 e.a2 e.g2 && (al 0 9 e.st && (al 0 5 e.tr && ((decide (0≤e.id) && decide (e.id≤255)) && (al 0 3 e.fl && (cC F1 && (cC F2 &&
  ((if gj e.st=true then al 0 1000000003 e.du else e.du == -1) && ((e.up == (e.st == 9)) &&
   (if e.up=true then dQ e.i1 e.i2 e.i3 e.i4 e.i5 (aQ F1) && dQ e.o1 e.o2 e.o3 e.o4 e.o5 (aQ F2) else dQ e.i1 e.i2 e.i3 e.i4 e.i5 ⟨0,0,false,false,false⟩ && dQ e.o1 e.o2 e.o3 e.o4 e.o5 ⟨0,0,false,false,false⟩))))))))))
def yd:Prop:=(∀ (m a m' a':Int) (p c d p' c' d':Bool) (W:World),(binOp .eql 70 (.agg #[.int .i64 m,.int .i64 a,.bool p,.bool c,.bool d]) (.agg #[.int .i64 m',.int .i64 a',.bool p',.bool c',.bool d'])).run prog W=.ok (.bool (m == m' && (a == a' && (p == p' && (c == c' && d == d'))))) W) ∧
 ∀ (x y:Operand) (xs ys:Array Value) (W:World),(eqGuard .eql 70 x y (.agg xs) (.agg ys)).run prog W=.ok () W
end Go.Proofs.YtjebigodbnefiaaGreatDoor
namespace Go.Proofs.YtjebigodbnefiaaGreatDoor
open Go.RowKit Go.Proofs.Tryz
structure Near (B:Nat) (w w':World):Prop where
 os:w'.os=w.os
 tape:w'.tape=w.tape
 output:w'.output=w.output
 size:w.heap.size≤w'.heap.size
 block:∀ k,k<w.heap.size→k≠B→w'.heap[k]?=w.heap[k]?
theorem Near.refl (B:Nat) (w:World):Near B w w:=⟨rfl,rfl,rfl,zD _,fun _ _ _=>rfl⟩
theorem Near.trans {B:Nat} {a b c:World} (h:Near B a b) (k:Near B b c):Near B a c :=
 ⟨k.os.trans h.os,k.tape.trans h.tape,k.output.trans h.output,zE h.size k.size,fun i hi hn=>(k.block i (Nat.lt_of_lt_of_le hi h.size) hn).trans (h.block i hi hn)⟩
theorem Near.drew {B:Nat} {a w:World} (h:Near B a w):Near B a w.drew:=⟨h.os,h.tape,h.output,h.size,h.block⟩
theorem Near.setCell {B:Nat} {a w:World} (h:Near B a w) (o:Nat) (v:Value):Near B a (w.setCell ⟨B,o,none⟩ v):=by
 have hb:=(zC 0 w).setCell (p:=⟨B,o,none⟩) (Nat.zero_le _) v;exact ⟨hb.os.trans h.os,hb.tape.trans h.tape,hb.output.trans h.output,zE h.size hb.size,fun k hk hn=>(Below.heap_setCell w ⟨B,o,none⟩ v k hn).trans (h.block k hk hn)⟩
theorem Near.of_below {B:Nat} {a w w':World} (h:Near B a w) (hb:Below w.heap.size w w'):Near B a w' :=
 h.trans ⟨hb.os,hb.tape,hb.output,hb.size,fun k hk _=>hb.block k hk⟩
theorem Near.alloc {B:Nat} {a w:World} (h:Near B a w) (o:Obj):Near B a (w.alloc o):=h.of_below ((zC _ _).alloc (zD _) _)
theorem Near.below {B n:Nat} {w w':World} (h:Near B w w') (hn:n≤B) (hw:n≤w.heap.size):Below n w w' :=
 ⟨h.os,h.tape,h.output,h.size,fun k hk=>h.block k (by omega) (by omega)⟩
structure Dc (cs:Array Value) (g:Nat) (wide long:Bool) (held:List UInt8) (fs:List Hd.Fd):Prop where
 size:cs.size=1109
 c0:cs[0]?=some (.bool wide)
 c1:cs[1]?=some (.bool long)
 c2:cs[2]?=some (.func (.func 75) #[] #[.pointer (some ⟨g,0,none⟩)])
 cz:cs[307]?=some (.int .i64 held.length)
 cn:cs[1108]?=some (.int .i64 fs.length)
 hl:held.length≤304
 fl:fs.length≤400
 hv:∀ i c,held[i]?=some c→cs[3+i]?=some (.int .u8 c.toNat)
 fk:∀ i f,fs[i]?=some f→cs[308+i*2]?=some (.int .i64 f.kind)
 ft:∀ i f,fs[i]?=some f→cs[308+i*2+1]?=some (.string (co f.text))
theorem aN {cs:Array Value} {i j:Nat} {v:Value} (h:i≠j):(cs.setIfInBounds i v)[j]?=cs[j]?:=Array.getElem?_setIfInBounds_ne h
theorem eI {cs:Array Value} {i:Nat} {v:Value} (h:i<cs.size):(cs.setIfInBounds i v)[i]?=some v:=by
 rw [Array.getElem?_setIfInBounds_self,if_pos h]
theorem ce {cs:Array Value} {i:Nat} {v:Value}:(cs.setIfInBounds i v).size=cs.size:=Array.size_setIfInBounds ..
theorem fx {α:Type} {l:List α} {i:Nat} {x:α} (h:l[i]?=some x):i<l.length:=(List.getElem?_eq_some_iff.1 h).1
theorem Dc.setLong {cs:Array Value} {g:Nat} {wide long:Bool} {held:List UInt8} {fs:List Hd.Fd} (h:Dc cs g wide long held fs) (b:Bool):Dc (cs.setIfInBounds 1 (.bool b)) g wide b held fs where
 size:=by rw [ce,h.size]
 c0:=by rw [aN (by decide)];exact h.c0
 c1:=eI (by rw [h.size];decide)
 c2:=by rw [aN (by decide)];exact h.c2
 cz:=by rw [aN (by decide)];exact h.cz
 cn:=by rw [aN (by decide)];exact h.cn
 hl:=h.hl
 fl:=h.fl
 hv:=fun i c hc=>by rw [aN (by omega)];exact h.hv i c hc
 fk:=fun i f hf=>by rw [aN (by omega)];exact h.fk i f hf
 ft:=fun i f hf=>by rw [aN (by omega)];exact h.ft i f hf
theorem Dc.clear {cs:Array Value} {g:Nat} {wide long:Bool} {held:List UInt8} {fs:List Hd.Fd} (h:Dc cs g wide long held fs):Dc (cs.setIfInBounds 307 (.int .i64 0)) g wide long [] fs where
 size:=by rw [ce,h.size]
 c0:=by rw [aN (by decide)];exact h.c0
 c1:=by rw [aN (by decide)];exact h.c1
 c2:=by rw [aN (by decide)];exact h.c2
 cz:=eI (by rw [h.size];decide)
 cn:=by rw [aN (by decide)];exact h.cn
 hl:=by simp
 fl:=h.fl
 hv:=fun i c hc=>by simp at hc
 fk:=fun i f hf=>by have:=fx hf;rw [aN (by omega)];exact h.fk i f hf
 ft:=fun i f hf=>by have:=fx hf;rw [aN (by omega)];exact h.ft i f hf
theorem Dc.put {cs:Array Value} {g:Nat} {wide long:Bool} {held:List UInt8} {fs:List Hd.Fd} (h:Dc cs g wide long held fs) (c:UInt8) (hlt:held.length<304) (s:Int) (hs:s=((held.length+1:Nat):Int)) :
  Dc ((cs.setIfInBounds (3+held.length) (.int .u8 c.toNat)).setIfInBounds 307 (.int .i64 s)) g wide long (held ++ [c]) fs where
 size:=by rw [ce,ce,h.size]
 c0:=by rw [aN (by decide),aN (by omega)];exact h.c0
 c1:=by rw [aN (by decide),aN (by omega)];exact h.c1
 c2:=by rw [aN (by decide),aN (by omega)];exact h.c2
 cz:=by rw [eI (by rw [ce,h.size];decide),hs];simp
 cn:=by rw [aN (by decide),aN (by omega)];exact h.cn
 hl:=by simp;omega
 fl:=h.fl
 hv:=fun i d hd=>by
  rw [aN (by have:=fx hd;simp at this;omega)];by_cases e:i=held.length
  ·subst e;rw [eI (by rw [h.size];omega)];simp at hd;rw [hd]
  ·have hi:=fx hd;simp at hi;rw [aN (by omega)];rw [List.getElem?_append_left (by omega)] at hd;exact h.hv i d hd
 fk:=fun i f hf=>by have:=fx hf;rw [aN (by omega),aN (by omega)];exact h.fk i f hf
 ft:=fun i f hf=>by have:=fx hf;rw [aN (by omega),aN (by omega)];exact h.ft i f hf
theorem Dc.found {cs:Array Value} {g:Nat} {wide long:Bool} {held:List UInt8} {fs:List Hd.Fd} (h:Dc cs g wide long held fs) (f:Hd.Fd) (hlt:fs.length<400) (s:Int) (hs:s=((fs.length+1:Nat):Int)) :
  Dc (((cs.setIfInBounds (308+fs.length*2) (.int .i64 f.kind)).setIfInBounds (308+fs.length*2+1) (.string (co f.text))).setIfInBounds 1108 (.int .i64 s)) g wide long held (fs ++ [f]) where
 size:=by rw [ce,ce,ce,h.size]
 c0:=by rw [aN (by decide),aN (by omega),aN (by omega)];exact h.c0
 c1:=by rw [aN (by decide),aN (by omega),aN (by omega)];exact h.c1
 c2:=by rw [aN (by decide),aN (by omega),aN (by omega)];exact h.c2
 cz:=by rw [aN (by decide),aN (by omega),aN (by omega)];exact h.cz
 cn:=by rw [eI (by rw [ce,ce,h.size];decide),hs];simp
 hl:=h.hl
 fl:=by simp;omega
 hv:=fun i d hd=>by have:=fx hd;have:=h.hl;rw [aN (by omega),aN (by omega),aN (by omega)];exact h.hv i d hd
 fk:=fun i d hd=>by
  have hi:=fx hd;simp at hi;rw [aN (by omega)];by_cases e:i=fs.length
  ·subst e;rw [aN (by omega),eI (by rw [h.size];omega)];simp at hd;rw [hd]
  ·rw [aN (by omega),aN (by omega)];rw [List.getElem?_append_left (by omega)] at hd;exact h.fk i d hd
 ft:=fun i d hd=>by
  have hi:=fx hd;simp at hi;rw [aN (by omega)];by_cases e:i=fs.length
  ·subst e;rw [eI (by rw [ce,h.size];omega)];simp at hd;rw [hd]
  ·rw [aN (by omega),aN (by omega)];rw [List.getElem?_append_left (by omega)] at hd;exact h.ft i d hd
def Dw (w:World) (B g:Nat) (wide long:Bool) (held:List UInt8) (fs:List Hd.Fd):Prop:=∃ cs,w.heap[B]?=some (.cells cs 168)∧Dc cs g wide long held fs
theorem Dw.same {w w':World} {B g:Nat} {wide long:Bool} {held:List UInt8} {fs:List Hd.Fd} (h:Dw w B g wide long held fs) (hb:w'.heap[B]?=w.heap[B]?):Dw w' B g wide long held fs:=by
 obtain ⟨cs,h1,h2⟩:=h;exact ⟨cs,hb.trans h1,h2⟩
theorem Dw.lt {w:World} {B g:Nat} {wide long:Bool} {held:List UInt8} {fs:List Hd.Fd} (h:Dw w B g wide long held fs):B<w.heap.size:=by
 obtain ⟨cs,h1,h2⟩:=h;exact (ge.1 h1).1
theorem AD (w:World) (B g:Nat) (wide long:Bool) (held:List UInt8) (fs:List Hd.Fd) (c:UInt8) (h:Dw w B g wide long held fs) :
  Calls prog 138 #[.pointer (some ⟨B,0,none⟩),.int .u8 c.toNat] w fun e w'=>e=.returned (.tuple #[]) ∧
   Dw w' B g wide (if held.length=304 then true else long) (if held.length=304 then held else held ++ [c]) fs∧Near B w w':=by
 obtain ⟨cs,hB,hd⟩:=h;have e1:w.cell? ⟨B,307,none⟩=some (.int .i64 held.length):=by rw [cr hB];exact hd.cz
 have e2:w.cell? ⟨B,1,none⟩=some (.bool long):=by rw [cr hB];exact hd.c1
 have f1:=aX hB 307;have f2:=aX hB 1;have hl:=hd.hl;have HB:=aa hB;have HD:=aa hd;by_cases hf:held.length=304
 ·rw [if_pos hf,if_pos hf];have d1:((held.length:Int) == 304)=true:=beq_iff_eq.2 (by omega);clear hB hd;go_enter func138,ntmps138
  go_wp2
  refine bodyPost_ret (v:=.tuple #[]) (by simp [results,results138,go_sem]) rfl ⟨rfl,⟨_,zH w B 1 _ _ _ (uh HB),(uh HD).setLong true⟩,(Near.refl _ _).setCell 1 _⟩
 ·rw [if_neg hf,if_neg hf];have d1:((held.length:Int) == 304)=false:=beq_eq_false_iff_ne.2 (by omega);have hlt:held.length<304:=by omega
  have f3:=aX hB (3+held.length);obtain ⟨v3,e3⟩:∃ v,w.cell? ⟨B,3+held.length,none⟩=some v:=by
   rw [cr hB];exact ⟨_,Array.getElem?_eq_getElem (by rw [hd.size];omega)⟩
  clear hB hd;go_enter func138,ntmps138
  go_wp2_with fail
  have n1:¬ (307=3+held.length):=by omega
  have n2:¬ (3+held.length=307):=by omega
  have n3:¬ (304=held.length):=by omega
  go_region
  go_wp2
  have e7:((held.length:Int)+1)=((held.length+1:Nat):Int):=by omega
  refine bodyPost_end (v:=.tuple #[]) (by simp [results,results138,go_sem]) rfl ⟨rfl,⟨_,zH _ B 307 _ _ _ (zH w B (3+held.length) _ _ _ (uh HB)),(uh HD).put c hlt _ e7⟩,(((Near.refl _ _).setCell (3+held.length) _).drew).setCell 307 _⟩
theorem om (w:World) (B g:Nat) (wide long:Bool) (held:List UInt8) (fs:List Hd.Fd) (f:Hd.Fd) (h:Dw w B g wide long held fs) :
  Calls prog 139 #[.pointer (some ⟨B,0,none⟩),.agg #[.int .i64 f.kind,.string (co f.text)]] w fun e w'=>e=.returned (.tuple #[]) ∧
   Dw w' B g wide false [] (if fs.length<400 then fs ++ [f] else fs)∧Near B w w':=by
 have hBw:=h.lt;obtain ⟨cs,hB,hd⟩:=h;have e0:w.cell? ⟨B,307,none⟩=some (.int .i64 held.length):=by rw [cr hB];exact hd.cz
 have e1:w.cell? ⟨B,1,none⟩=some (.bool long):=by rw [cr hB];exact hd.c1
 have e2:w.cell? ⟨B,1108,none⟩=some (.int .i64 fs.length):=by rw [cr hB];exact hd.cn
 have f0:=aX hB 307;have f1:=aX hB 1;have f2:=aX hB 1108;have hl:=hd.fl;have hne:¬ (B=w.heap.size):=by omega
 have HB:=aa hB;have HD:=aa hd;by_cases hf:fs.length<400
 ·rw [if_pos hf];have d1:(fs.length:Int)<400:=by omega
  have f3:=aX hB (308+fs.length*2);have f4:=aX hB (308+fs.length*2+1);obtain ⟨v3,e3⟩:∃ v,w.cell? ⟨B,308+fs.length*2,none⟩=some v:=by
   rw [cr hB];exact ⟨_,Array.getElem?_eq_getElem (by rw [hd.size];omega)⟩
  obtain ⟨v4,e4⟩:∃ v,w.cell? ⟨B,308+fs.length*2+1,none⟩=some v:=by
   rw [cr hB];exact ⟨_,Array.getElem?_eq_getElem (by rw [hd.size];omega)⟩
  clear hB hd;have HF:Hid (∀ s:Int,s=((fs.length+1:Nat):Int)→Dc ((((((cs.setIfInBounds 1 (.bool false)).setIfInBounds 307 (.int .i64 0)).setIfInBounds (308+fs.length*2) (.int .i64 f.kind)).setIfInBounds (308+fs.length*2+1) (.string (co f.text))).setIfInBounds 1108 (.int .i64 s))) g wide false [] (fs ++ [f])) :=
   aa fun s hs=>(((uh HD).setLong false).clear).found f hf s hs
  generalize f.kind=K at *;generalize co f.text=T at *;have n1:¬ (1108=308+fs.length*2):=by omega
  have n2:¬ (1108=308+fs.length*2+1):=by omega
  have n3:¬ (308+fs.length*2=1108):=by omega
  have n4:¬ (308+fs.length*2+1=1108):=by omega
  have n5:¬ (800=fs.length*2):=by omega
  have n6:¬ (799=fs.length*2):=by omega
  have n7:¬ (307=308+fs.length*2):=by omega
  have n8:¬ (1=308+fs.length*2):=by omega
  go_enter func139,ntmps139
  go_wp2_with fail
  go_region
  go_wp2
  have e7:((fs.length:Int)+1)=((fs.length+1:Nat):Int):=by omega
  refine bodyPost_end (v:=.tuple #[]) (by simp [results,results139,go_sem]) rfl ⟨rfl,⟨_,?_,uh HF _ e7⟩,?_⟩
  ·refine (zG _ _ _ ?_).trans ?_
   ·simpa [World.setCell] using hBw
   ·exact zH _ B 1108 _ _ _ (zH _ B _ _ _ _ (zH _ B _ _ _ _ (zH _ B _ _ _ _ (zH w B 1 _ _ _ (uh HB)))))
  ·exact (((((((Near.refl _ _).setCell 1 _).setCell 307 _).setCell _ _).setCell _ _).setCell 1108 _).alloc _).drew
 ·rw [if_neg hf];have d1:¬ ((fs.length:Int)<400):=by omega
  clear hB hd;go_enter func139,ntmps139
  go_wp2
  refine bodyPost_end (v:=.tuple #[]) (by simp [results,results139,go_sem]) rfl ⟨rfl,⟨_,?_,((uh HD).setLong false).clear⟩,(((Near.refl _ _).setCell 1 _).setCell 307 _).alloc _⟩;refine (zG _ _ _ ?_).trans (zH _ B 307 _ _ _ (zH w B 1 _ _ _ (uh HB)));simpa [World.setCell] using hBw
end Go.Proofs.YtjebigodbnefiaaGreatDoor
