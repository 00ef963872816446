/- AsErr AsHit -/
import Derived.Test.YtjdgiimfpkideaaGreatDoorS00
import Derived.Stop.Asserts
set_option maxHeartbeats 4000000
namespace Go.Proofs.YtjdgiimfpkideaaGreatDoor
open Go.RowKit Go.Proofs.Tryz
section
open Go.RowKit Go.Extern.Stop Go.Stop Go.Extern
theorem ue(t:Value)(w:World):Calls prog 163 #[.nilIface,t] w fun e w'=>e=.returned (.bool false)/\w'=w:=by
 go_enter func163,ntmps163
 go_wp2
 go_ret
 exact⟨rfl,rfl⟩
theorem uf(t:Addr)(w:World):(ReflectliteValue.unpack (.iface 226 (.pointer (some t)))).run prog w
  = .ok (.agg #[(6,226),(w,0),.int .u64 150]) (w.alloc (.cells #[.pointer (some t)] 226)):=by kernel_rfl
theorem vI(a : Addr)(w : World): (ReflectliteValue.methodAny (ReflectliteValue.valueError "reflectlite.Value.Type" 0) (fun t _ _ _ => ReflectliteType.toType t) #[.agg #[(6,226), .pointer (some a), .int .u64 150]]).run prog w
  = .ok (.iface 272 (.agg #[(6,226)])) w:=by kernel_rfl
theorem pq(h : Value)(w : World): (Go.method 421 272 (.agg #[h]) "Kind").run prog w = .ok (236, h) w := by kernel_rfl
theorem pr(h : Value)(w : World): (Go.method 421 272 (.agg #[h]) "Elem").run prog w = .ok (262, .agg #[h]) w := by kernel_rfl
theorem iQ(h : Value)(w : World): (Go.method 421 272 (.agg #[h]) "Implements").run prog w = .ok (263, .agg #[h]) w := by kernel_rfl
theorem iR(h : Value)(w : World): (Go.method 421 272 (.agg #[h]) "AssignableTo").run prog w = .ok (260, .agg #[h]) w := by kernel_rfl
theorem vJ(w:World):((ReflectliteType.abiMethod fun t=>Functor.map (fun a:Nat=>Value.int IntKind.u8 (a:Int)) (Rtype.kind t)) #[(6,226)]).run prog w=.ok (.int .u8 22) w:=by kernel_rfl
theorem vK(w:World):((ReflectliteType.abiMethod fun t=>Functor.map (fun a:Nat=>Value.int IntKind.u8 (a:Int)) (Rtype.kind t)) #[(6,224)]).run prog w=.ok (.int .u8 25) w:=by kernel_rfl
theorem pt(a:Addr)(w:World):(ReflectliteValue.parts (.agg #[(6,226),.pointer (some a),.int .u64 150])).run prog w=.ok (some (226,a,150)) w:=by kernel_rfl
theorem vL(w:World):(ReflectliteType.method ReflectliteType.elem #[.agg #[(6,226)]]).run prog w=.ok (.iface 272 (.agg #[(6,224)])) w:=by kernel_rfl
theorem vM(w : World): (ReflectliteType.relation "Implements" ReflectliteType.implements_ #[.agg #[(6,224)], .iface 272 (.agg #[(6,201)])]).run prog w = .ok true w := by kernel_rfl
theorem rO(v:Value)(w:World):(ReflectliteType.typeOf #[.iface 224 v]).run prog w=.ok (.iface 272 (.agg #[(6,224)])) w:=by kernel_rfl
theorem rP(w : World): (ReflectliteType.relation "AssignableTo" ReflectliteType.assignableTo #[.agg #[(6,224)], .iface 272 (.agg #[(6,224)])]).run prog w = .ok true w := by kernel_rfl
theorem ug(c:Int)(w:World):(ReflectliteValue.unpack (.iface 224 (.agg #[c]))).run prog w
  = .ok (.agg #[(6,224),(w,0),.int .u64 153]) (w.alloc (.cells #[c] 224)):=by kernel_rfl
theorem rQ(w:World):(Rtype.elem? 226).run prog w=.ok (some 224) w:=by kernel_rfl
theorem mkM(p:Addr)(w:World):(ReflectliteValue.mk 224 p ReflectliteValue.flagAddr).run prog w=.ok (.agg #[(6,224),.pointer (some p),.int .u64 409]) w:=by kernel_rfl
theorem rR(a:Addr)(w:World):(ReflectliteValue.parts (.agg #[(6,224),.pointer (some a),.int .u64 409])).run prog w=.ok (some (224,a,409)) w:=by kernel_rfl
theorem uj(a:Addr)(w:World):(ReflectliteValue.parts (.agg #[(6,224),.pointer (some a),.int .u64 153])).run prog w=.ok (some (224,a,153)) w:=by kernel_rfl
theorem rS(w:World):(Rtype.directlyAssignable 224 224).run prog w=.ok true w:=by kernel_rfl
end
section
open Go.RowKit Go.Extern.Stop Go.Stop Go.Extern
theorem rT(w:World)(a b c d:Obj):((((w.alloc a).alloc b).alloc c).alloc d).heap.size=w.heap.size+1+1+1+1/\((((w.alloc a).alloc b).alloc c).alloc d).heap[w.heap.size]?=some a/\((((w.alloc a).alloc b).alloc c).alloc d).heap[w.heap.size+1]?=some b /\
  ((((w.alloc a).alloc b).alloc c).alloc d).heap[w.heap.size+1+1]?=some c/\((((w.alloc a).alloc b).alloc c).alloc d).heap[w.heap.size+1+1+1]?=some d/\Below w w ((((w.alloc a).alloc b).alloc c).alloc d):=by
 have s1:(w.alloc a).heap.size=w.heap.size+1:=by simp
 have s2:((w.alloc a).alloc b).heap.size=w.heap.size+1+1:=by simp
 have s3:(((w.alloc a).alloc b).alloc c).heap.size=w.heap.size+1+1+1:=by simp
 have e1:=zF w a;have e2:=zF (w.alloc a) b;have e3:=zF ((w.alloc a).alloc b) c;have e4:=zF (((w.alloc a).alloc b).alloc c) d;rw[s1]at e2;rw[s2]at e3;rw[s3]at e4;refine⟨by simp,?_,?_,?_,e4,((((zC _ _).alloc (zD _) _).alloc (by omega) _).alloc (by omega) _).alloc (by omega) _⟩
 .rw [zG _ _ _ (by omega),zG _ _ _ (by omega),zG _ _ _ (by omega)];exact e1
 .rw [zG _ _ _ (by omega),zG _ _ _ (by omega)];exact e2
 .rw [zG _ _ _ (by omega)];exact e3
theorem uk(a p:Addr)(W:World)(ha:W.cell? a=some (.pointer (some p))):(ReflectliteValue.method (ReflectliteValue.valueError "reflectlite.Value.IsNil" 0) ReflectliteValue.isNil #[.agg #[(6,226), .pointer (some a), .int .u64 150]]).run prog W = .ok false W := by
 refine(congrArg (fun m=>Sem.run prog m W) (show ReflectliteValue.method _ _ _=(ReflectliteValue.parts (.agg #[(6,226),.pointer (some a),.int .u64 150])>>=_)from rfl)).trans ?_;simp only[Sem.run_bind,pt,Result.andThen];simp[ReflectliteValue.isNil,loadVar,isAgg,underlying,underlying226,ha,Result.andThen]
theorem um(a p:Addr)(W:World)(ha:W.cell? a=some (.pointer (some p))):(ReflectliteValue.method (ReflectliteValue.valueError "reflectlite.Value.Elem" 0) ReflectliteValue.elem #[.agg #[(6,226), .pointer (some a), .int .u64 150]]).run prog W
   = .ok (.agg #[(6,224),.pointer (some p),.int .u64 409]) W:=by
 refine(congrArg (fun m=>Sem.run prog m W) (show ReflectliteValue.method _ _ _=(ReflectliteValue.parts (.agg #[(6,226),.pointer (some a),.int .u64 150])>>=_)from rfl)).trans ?_;simp only[Sem.run_bind,pt,Result.andThen];simp[ReflectliteValue.elem,loadVar,isAgg,underlying,underlying226,ha,Result.andThen,rQ,mkM]
theorem yk(ta b:Nat)(c:Int)(old:Value)(W:World)(hb:W.heap[b]?=some (.cells #[c] 224))(ht:W.heap[ta]?=some (.cells #[old] 224)):(ReflectliteValue.set #[.agg #[(6,224),(ta,0),.int .u64 409],.agg #[(6,224),(b,0),.int .u64 153]]).run prog W
   = .ok (.tuple #[]) (W.setCell (ta,0) c):=by
 have hi:(prog.info? 224).map (·.size)=some 1:=by kernel_rfl
 have hld:=run_loadVar_row (P:=prog) W b 224 224 #[c] (0,0) _ hb underlying224 rfl hi;have hc:W.cell? (ta,0)=some old:=cv ht
 have hf:W.frozen? (ta,0)=false:=aX ht 0;refine(congrArg (fun m=>Sem.run prog m W) (show ReflectliteValue.set _=(ReflectliteValue.parts (.agg #[(6,224),(ta,0),.int .u64 409])>>=fun r=>ReflectliteValue.parts (.agg #[(6,224),(b,0),.int .u64 153])>>=_)from rfl)).trans ?_;simp only[Sem.run_bind,rR,uj,Result.andThen];simp[ReflectliteValue.flagAddr,hld,Result.andThen,rS,storeVar,Value.cells,storeCells,Addr.add];rw[run_store prog W ⟨ta,0,none⟩ _ _ (by rfl)];simp[hc,hf]
theorem un(c:Int)(t:Nat)(old:Value)(w:World)(hg:w.cell? (4,0)=some (.iface 272 (.agg #[(6,201)])))(ht0:w.heap[t]?=some (.cells #[old] 224))(hgt:4<t):Calls prog 163 #[.iface 224 (.agg #[c]),.iface 226 (t,0)] w fun ev w'=>ev=.returned (.bool true)/\w'.heap[t]?=some (.cells #[c] 224)/\Nr t w w':=by
 have h1:=@run_callFunc_extern prog 205 _ (fun args=>ReflectliteValue.unpack (args.getD 0 (.tuple #[]))) func205 (by kernel_rfl) (by kernel_rfl) (by kernel_rfl) (by kernel_rfl);have h2 := @run_callFunc_extern prog 206 _ (ReflectliteValue.methodAny (ReflectliteValue.valueError "reflectlite.Value.Type" 0) (fun t _ _ _ => ReflectliteType.toType t)) func206 (by kernel_rfl) (by kernel_rfl) (by kernel_rfl) (by kernel_rfl)
 have h3 := @run_callFunc_extern prog 207 _ (ReflectliteValue.method (ReflectliteValue.valueError "reflectlite.Value.IsNil" 0) ReflectliteValue.isNil) func207 (by kernel_rfl) (by kernel_rfl) (by kernel_rfl) (by kernel_rfl)
 have h4:=@run_callFunc_extern prog 236 _ (ReflectliteType.abiMethod fun t=>do pure (.int .u8 (<- Rtype.kind t))) func236 (by kernel_rfl) (by kernel_rfl) (by kernel_rfl) (by kernel_rfl);have h5:=@run_callFunc_extern prog 262 _ (ReflectliteType.method ReflectliteType.elem) func262 (by kernel_rfl) (by kernel_rfl) (by kernel_rfl) (by kernel_rfl);have h6 := @run_callFunc_extern prog 263 _ (ReflectliteType.relation "Implements" ReflectliteType.implements_) func263 (by kernel_rfl) (by kernel_rfl) (by kernel_rfl) (by kernel_rfl)
 have h7:=@run_callFunc_extern prog 215 _ ReflectliteType.typeOf func215 (by kernel_rfl) (by kernel_rfl) (by kernel_rfl) (by kernel_rfl);have h8 := @run_callFunc_extern prog 260 _ (ReflectliteType.relation "AssignableTo" ReflectliteType.assignableTo) func260 (by kernel_rfl) (by kernel_rfl) (by kernel_rfl) (by kernel_rfl)
 have h9 := @run_callFunc_extern prog 216 _ (ReflectliteValue.method (ReflectliteValue.valueError "reflectlite.Value.Elem" 0) ReflectliteValue.elem) func216 (by kernel_rfl) (by kernel_rfl) (by kernel_rfl) (by kernel_rfl)
 have h10:=@run_callFunc_extern prog 217 _ ReflectliteValue.set func217 (by kernel_rfl) (by kernel_rfl) (by kernel_rfl) (by kernel_rfl);have f1:=rO;have f2:=iR;have f3:=rP;have f4:=ug;have f5:=uf;have f6:=vI;have f7:=pq;have f8:=pr;have f9:=iQ;have f10:=vJ;have f11:=vK;have f12:=vL;have f13:=vM;have htl:t<w.heap.size:=(ge.1 ht0).1;have hlt:4<w.heap.size:=Nat.lt_trans hgt htl;have n8:=uk (w,0) (t,0) ((w.alloc (.cells #[(t,0)] 226)).alloc (.cells #[(6,226),(w,0),.int .u64 150] 254)) (by simp);have hg2:((w.alloc (.cells #[(t,0)] 226)).alloc (.cells #[(6,226),(w,0),.int .u64 150] 254)).cell? (4,0)=some (.iface 272 (.agg #[(6,201)])):=by
  rw[World.cell?_alloc_lt _ _ ⟨4,0,none⟩ (by simp<;>omega),World.cell?_alloc_lt _ _ ⟨4,0,none⟩ hlt];exact hg
 have el:=um ⟨w.heap.size,0,none⟩ ⟨t,0,none⟩ (((w.alloc (.cells #[.pointer (some ⟨t,0,none⟩)] 226)).alloc (.cells #[.pointer (some ⟨6,226,none⟩),.pointer (some ⟨w.heap.size,0,none⟩),.int .u64 150] 254)).alloc (.cells #[.pointer (some ⟨6,226,none⟩),.pointer (some ⟨w.heap.size,0,none⟩),.int .u64 150] 254)) (by rw[World.cell?_alloc_lt _ _ ⟨w.heap.size,0,none⟩ (by simp;omega)];simp);obtain⟨hs,q0,q1,q2,q3,hb⟩:=rT w (.cells #[(t,0)] 226) (.cells #[(6,226),(w,0),.int .u64 150] 254) (.cells #[(6,226),(w,0),.int .u64 150] 254) (.cells #[c] 224);have htW:=(hb.block t htl).trans ht0;have st:=yk t (w.heap.size+1+1+1) c old _ q3 htW;have HT:=aa (zA (zH _ _ 0 _ _ c htW) (((Nr.refl t w).of_below hb).setCell 0 c));clear q0 q1 q2 q3 hb htW hs;go_enter func163,ntmps163
 go_wp2
 refine wp_loop_rounds 1 ?_;rw[rounds_succ];go_wp2
 go_ret
 exact⟨rfl,HT.out.1,HT.out.2⟩
def Et(w:World):Prop:=w.cell? (4,0)=some (.iface 272 (.agg #[(6,201)]))
theorem Et.lt{w:World}(h:Et w):4<w.heap.size:=World.block_lt_of_cell? w _ h
theorem Et.below{n:Nat}{w w':World}(h:Et w)(hb:Below n w w')(hn:4<n):Et w':=(hb.cell (p:=⟨4,0,none⟩) hn).trans h
theorem pu(w:World):Calls prog 148 #[.nilIface] w fun e w'=>e=.returned (.int .i64 0)/\Below w w w':=by
 go_enter func148,ntmps148
 go_wp2_with fail
 refine(ue _ _).mono ?_;rintro e w1⟨rfl,rfl⟩;go_wp2
 go_ret
 exact⟨rfl,(zC _ _).alloc (zD _) _⟩
theorem my(c:Int)(w:World)(hE:Et w):Calls prog 148 #[cS c] w fun e w'=>e=.returned (.int .i64 c)/\Below w w w':=by
 unfold cS;have hlt:=hE.lt;have C:=aa (un c w (0:Int) (w.alloc (.cells #[(0:Int)] 224)) (hE.below ((zC _ _).alloc (zD _) _) hlt) (zF w _) hlt);clear hE;go_enter func148,ntmps148
 go_wp2_with fail
 refine C.out.mono ?_;rintro e w1⟨rfl,ht,hn⟩;have hc:w1.cell? (w,0)=some (.int .i64 c):=cv ht
 clear ht C;go_wp2
 go_ret
 exact⟨rfl,((zC _ _).alloc (zD _) _).trans (hn.below (zD _) (by simp))⟩
end
end Go.Proofs.YtjdgiimfpkideaaGreatDoor
