/- AsHit EndRi -/
import Derived.Test.YtjebigodbnefiaaGreatDoorS08
set_option maxHeartbeats 8000000
set_option maxRecDepth 100000
namespace Go.Proofs.YtjebigodbnefiaaGreatDoor
open Go.Proofs.Tryz
open Go.RowKit Go.Extern.Stop Go.Stop Go.Extern
theorem rT (w:World) (a b c d:Obj):((((w.alloc a).alloc b).alloc c).alloc d).heap.size=w.heap.size+1+1+1+1∧((((w.alloc a).alloc b).alloc c).alloc d).heap[w.heap.size]?=some a∧((((w.alloc a).alloc b).alloc c).alloc d).heap[w.heap.size+1]?=some b ∧
  ((((w.alloc a).alloc b).alloc c).alloc d).heap[w.heap.size+1+1]?=some c∧((((w.alloc a).alloc b).alloc c).alloc d).heap[w.heap.size+1+1+1]?=some d∧Below w.heap.size w ((((w.alloc a).alloc b).alloc c).alloc d):=by
 have s1:(w.alloc a).heap.size=w.heap.size+1:=by simp
 have s2:((w.alloc a).alloc b).heap.size=w.heap.size+1+1:=by simp
 have s3:(((w.alloc a).alloc b).alloc c).heap.size=w.heap.size+1+1+1:=by simp
 have e1:=zF w a;have e2:=zF (w.alloc a) b;have e3:=zF ((w.alloc a).alloc b) c;have e4:=zF (((w.alloc a).alloc b).alloc c) d;rw [s1] at e2;rw [s2] at e3;rw [s3] at e4;refine ⟨by simp,?_,?_,?_,e4,((((zC _ _).alloc (zD _) _).alloc (by omega) _).alloc (by omega) _).alloc (by omega) _⟩
 ·rw [zG _ _ _ (by omega),zG _ _ _ (by omega),zG _ _ _ (by omega)];exact e1
 ·rw [zG _ _ _ (by omega),zG _ _ _ (by omega)];exact e2
 ·rw [zG _ _ _ (by omega)];exact e3
theorem uk (a p:Addr) (W:World) (ha:W.cell? a=some (.pointer (some p))) :
  (ReflectliteValue.method (ReflectliteValue.valueError "reflectlite.Value.IsNil" 0) ReflectliteValue.isNil #[.agg #[.pointer (some ⟨21, 259, none⟩), .pointer (some a), .int .u64 150]]).run prog W = .ok (.bool false) W := by
 refine (congrArg (fun m=>Sem.run prog m W) (show ReflectliteValue.method _ _ _=(ReflectliteValue.parts (.agg #[.pointer (some ⟨21,259,none⟩),.pointer (some a),.int .u64 150]) >>= _) from rfl)).trans ?_;simp only [Sem.run_bind,pt,Result.andThen];simp [ReflectliteValue.isNil,loadVar,isAgg,underlying,underlying259,ha,Result.andThen]
theorem um (a p:Addr) (W:World) (ha:W.cell? a=some (.pointer (some p))) :
  (ReflectliteValue.method (ReflectliteValue.valueError "reflectlite.Value.Elem" 0) ReflectliteValue.elem #[.agg #[.pointer (some ⟨21, 259, none⟩), .pointer (some a), .int .u64 150]]).run prog W
   = .ok (.agg #[.pointer (some ⟨21,257,none⟩),.pointer (some p),.int .u64 409]) W:=by
 refine (congrArg (fun m=>Sem.run prog m W) (show ReflectliteValue.method _ _ _=(ReflectliteValue.parts (.agg #[.pointer (some ⟨21,259,none⟩),.pointer (some a),.int .u64 150]) >>= _) from rfl)).trans ?_;simp only [Sem.run_bind,pt,Result.andThen];simp [ReflectliteValue.elem,loadVar,isAgg,underlying,underlying259,ha,Result.andThen,rQ,mkM]
theorem yk (ta b:Nat) (c:Int) (old:Value) (W:World) (hb:W.heap[b]?=some (.cells #[.int .i64 c] 257)) (ht:W.heap[ta]?=some (.cells #[old] 257)) :
  (ReflectliteValue.set #[.agg #[.pointer (some ⟨21,257,none⟩),.pointer (some ⟨ta,0,none⟩),.int .u64 409],.agg #[.pointer (some ⟨21,257,none⟩),.pointer (some ⟨b,0,none⟩),.int .u64 153]]).run prog W
   = .ok (.tuple #[]) (W.setCell ⟨ta,0,none⟩ (.int .i64 c)):=by
 have hi:(prog.info? 257).map (·.size)=some 1:=by kernel_rfl
 have hld:=run_loadVar_row (P:=prog) W b 257 257 #[.int .i64 c] (0,0) _ hb underlying257 rfl hi;have hc:W.cell? ⟨ta,0,none⟩=some old:=by rw [cr ht];rfl
 have hf:W.frozen? ⟨ta,0,none⟩=false:=aX ht 0;refine (congrArg (fun m=>Sem.run prog m W) (show ReflectliteValue.set _=(ReflectliteValue.parts (.agg #[.pointer (some ⟨21,257,none⟩),.pointer (some ⟨ta,0,none⟩),.int .u64 409]) >>= fun r=>ReflectliteValue.parts (.agg #[.pointer (some ⟨21,257,none⟩),.pointer (some ⟨b,0,none⟩),.int .u64 153]) >>= _) from rfl)).trans ?_;simp only [Sem.run_bind,rR,uj,Result.andThen];simp [ReflectliteValue.flagAddr,hld,Result.andThen,rS,storeVar,Value.cells,storeCells,Addr.add];rw [run_store prog W ⟨ta,0,none⟩ _ _ (by rfl)];simp [hc,hf]
theorem un (c:Int) (t:Nat) (old:Value) (w:World) (hg:w.cell? ⟨11,0,none⟩=some (.iface 151 (.agg #[.pointer (some ⟨21,91,none⟩)]))) (ht0:w.heap[t]?=some (.cells #[old] 257)) (hgt:11<t) :
  Calls prog 180 #[.iface 257 (.agg #[.int .i64 c]),.iface 259 (.pointer (some ⟨t,0,none⟩))] w fun ev w'=>ev=.returned (.bool true)∧w'.heap[t]?=some (.cells #[.int .i64 c] 257)∧Nr t w w':=by
 have h1:=@run_callFunc_extern prog 194 _ (fun args=>ReflectliteValue.unpack (args.getD 0 (.tuple #[]))) func194 (by kernel_rfl) (by kernel_rfl) (by kernel_rfl) (by kernel_rfl);have h2 := @run_callFunc_extern prog 195 _ (ReflectliteValue.methodAny (ReflectliteValue.valueError "reflectlite.Value.Type" 0) (fun t _ _ _ => ReflectliteType.toType t)) func195 (by kernel_rfl) (by kernel_rfl) (by kernel_rfl) (by kernel_rfl)
 have h3 := @run_callFunc_extern prog 196 _ (ReflectliteValue.method (ReflectliteValue.valueError "reflectlite.Value.IsNil" 0) ReflectliteValue.isNil) func196 (by kernel_rfl) (by kernel_rfl) (by kernel_rfl) (by kernel_rfl)
 have h4:=@run_callFunc_extern prog 242 _ (ReflectliteType.abiMethod fun t=>do pure (.int .u8 (← Rtype.kind t))) func242 (by kernel_rfl) (by kernel_rfl) (by kernel_rfl) (by kernel_rfl);have h5:=@run_callFunc_extern prog 251 _ (ReflectliteType.method ReflectliteType.elem) func251 (by kernel_rfl) (by kernel_rfl) (by kernel_rfl) (by kernel_rfl);have h6 := @run_callFunc_extern prog 252 _ (ReflectliteType.relation "Implements" ReflectliteType.implements_) func252 (by kernel_rfl) (by kernel_rfl) (by kernel_rfl) (by kernel_rfl)
 have h7:=@run_callFunc_extern prog 100 _ ReflectliteType.typeOf func100 (by kernel_rfl) (by kernel_rfl) (by kernel_rfl) (by kernel_rfl);have h8 := @run_callFunc_extern prog 249 _ (ReflectliteType.relation "AssignableTo" ReflectliteType.assignableTo) func249 (by kernel_rfl) (by kernel_rfl) (by kernel_rfl) (by kernel_rfl)
 have h9 := @run_callFunc_extern prog 208 _ (ReflectliteValue.method (ReflectliteValue.valueError "reflectlite.Value.Elem" 0) ReflectliteValue.elem) func208 (by kernel_rfl) (by kernel_rfl) (by kernel_rfl) (by kernel_rfl)
 have h10:=@run_callFunc_extern prog 209 _ ReflectliteValue.set func209 (by kernel_rfl) (by kernel_rfl) (by kernel_rfl) (by kernel_rfl);have f1:=rO;have f2:=iR;have f3:=rP;have f4:=ug;have f5:=uf;have f6:=vI;have f7:=pq;have f8:=pr;have f9:=iQ;have f10:=vJ;have f11:=vK;have f12:=vL;have f13:=vM;have htl:t<w.heap.size:=(ge.1 ht0).1;have hlt:11<w.heap.size:=Nat.lt_trans hgt htl;have n8:=uk ⟨w.heap.size,0,none⟩ ⟨t,0,none⟩ ((w.alloc (.cells #[.pointer (some ⟨t,0,none⟩)] 259)).alloc (.cells #[.pointer (some ⟨21,259,none⟩),.pointer (some ⟨w.heap.size,0,none⟩),.int .u64 150] 278)) (by simp);have hg2:((w.alloc (.cells #[.pointer (some ⟨t,0,none⟩)] 259)).alloc (.cells #[.pointer (some ⟨21,259,none⟩),.pointer (some ⟨w.heap.size,0,none⟩),.int .u64 150] 278)).cell? ⟨11,0,none⟩=some (.iface 151 (.agg #[.pointer (some ⟨21,91,none⟩)])):=by
  rw [World.cell?_alloc_lt _ _ ⟨11,0,none⟩ (by simp<;>omega),World.cell?_alloc_lt _ _ ⟨11,0,none⟩ hlt];exact hg
 have el:=um ⟨w.heap.size,0,none⟩ ⟨t,0,none⟩ (((w.alloc (.cells #[.pointer (some ⟨t,0,none⟩)] 259)).alloc (.cells #[.pointer (some ⟨21,259,none⟩),.pointer (some ⟨w.heap.size,0,none⟩),.int .u64 150] 278)).alloc (.cells #[.pointer (some ⟨21,259,none⟩),.pointer (some ⟨w.heap.size,0,none⟩),.int .u64 150] 278)) (by rw [World.cell?_alloc_lt _ _ ⟨w.heap.size,0,none⟩ (by simp;omega)];simp);obtain ⟨hs,q0,q1,q2,q3,hb⟩:=rT w (.cells #[.pointer (some ⟨t,0,none⟩)] 259) (.cells #[.pointer (some ⟨21,259,none⟩),.pointer (some ⟨w.heap.size,0,none⟩),.int .u64 150] 278) (.cells #[.pointer (some ⟨21,259,none⟩),.pointer (some ⟨w.heap.size,0,none⟩),.int .u64 150] 278) (.cells #[.int .i64 c] 257);have htW:=(hb.block t htl).trans ht0;have st:=yk t (w.heap.size+1+1+1) c old _ q3 htW;have HT:=aa (zA (zH _ _ 0 _ _ (.int .i64 c) htW) (((Nr.refl t w).of_below hb).setCell 0 (.int .i64 c)));clear q0 q1 q2 q3 hb htW hs;go_enter func180,ntmps180
 go_wp2
 refine wp_loop_rounds 1 ?_;rw [rounds_succ];go_wp2
 go_ret
 exact ⟨rfl,(uh HT).1,(uh HT).2⟩
def Et (w:World):Prop:=w.cell? ⟨11,0,none⟩=some (.iface 151 (.agg #[.pointer (some ⟨21,91,none⟩)]))
theorem Et.lt {w:World} (h:Et w):11<w.heap.size:=World.block_lt_of_cell? w _ h
theorem Et.below {n:Nat} {w w':World} (h:Et w) (hb:Below n w w') (hn:11<n):Et w':=(hb.cell (p:=⟨11,0,none⟩) hn).trans h
theorem pu (w:World):Calls prog 159 #[.nilIface] w fun e w'=>e=.returned (.int .i64 0)∧Below w.heap.size w w':=by
 go_enter func159,ntmps159
 go_wp2_with fail
 refine (ue _ _).mono ?_;rintro e w1 ⟨rfl,rfl⟩;go_wp2
 go_ret
 exact ⟨rfl,(zC _ _).alloc (zD _) _⟩
theorem my (c:Int) (w:World) (hE:Et w):Calls prog 159 #[cS c] w fun e w'=>e=.returned (.int .i64 c)∧Below w.heap.size w w':=by
 unfold cS;have hlt:=hE.lt;have C:=aa (un c w.heap.size (.int .i64 0) (w.alloc (.cells #[.int .i64 0] 257)) (hE.below ((zC _ _).alloc (zD _) _) hlt) (zF w _) hlt);clear hE;go_enter func159,ntmps159
 go_wp2_with fail
 refine (uh C).mono ?_;rintro e w1 ⟨rfl,ht,hn⟩;have hc:w1.cell? ⟨w.heap.size,0,none⟩=some (.int .i64 c):=by rw [cr ht];rfl
 clear ht C;go_wp2
 go_ret
 exact ⟨rfl,((zC _ _).alloc (zD _) _).trans (hn.below (zD _) (by simp))⟩
end Go.Proofs.YtjebigodbnefiaaGreatDoor
namespace Go.Proofs.YtjebigodbnefiaaGreatDoor
open Go.RowKit Go.Proofs.Tryz
theorem cE (x lo hi:Int) (w:World):Calls prog 150 #[.int .i64 x,.int .i64 lo,.int .i64 hi] w fun e w'=>e=.returned (.bool (al lo hi x))∧w'=w:=by
 unfold al;by_cases h1:lo≤x
 ·rw [decide_eq_true h1,Bool.true_and];go_enter func150,ntmps150
  go_wp2
  go_ret
  exact ⟨rfl,rfl⟩
 ·rw [decide_eq_false h1,Bool.false_and];go_enter func150,ntmps150
  go_wp2
  go_ret
  exact ⟨rfl,rfl⟩
theorem jS (B:Nat) (st:Int) (w:World) (c12:w.cell? ⟨B,12,none⟩=some (.int .i64 st)):Calls prog 173 #[.pointer (some ⟨B,0,none⟩)] w fun e w'=>e=.returned (.bool (gj st))∧w'=w:=by
 have C:=aa (cE st 4 8 w);have e:gj st=al 4 8 st:=rfl;rw [e];go_enter func173,ntmps173
 go_wp2_with fail
 refine (uh C).mono ?_;rintro r ws ⟨rfl,hws⟩;replace hws:=hws.symm;subst hws;go_wp2
 go_ret
 exact ⟨rfl,rfl⟩
theorem sG (B:Nat) (st du:Int) (w:World) (c12:w.cell? ⟨B,12,none⟩=some (.int .i64 st)) (c14:w.cell? ⟨B,14,none⟩=some (.int .i64 du)):Calls prog 151 #[.pointer (some ⟨B,0,none⟩)] w fun e w'=>e=.returned (.bool (if gj st=true then al 0 1000000003 du else du == -1))∧w'=w:=by
 have C:=aa (jS B st w c12);have CD:=aa (cE du 0 1000000003 w);cases hr:gj st
 ·rw [hr] at C;rw [if_neg (by decide)];go_enter func151,ntmps151
  go_wp2_with fail
  refine (uh C).mono ?_;rintro r ws ⟨rfl,hws⟩;replace hws:=hws.symm;subst hws;go_wp2
  go_ret
  exact ⟨rfl,rfl⟩
 ·rw [hr] at C;rw [if_pos rfl];go_enter func151,ntmps151
  go_wp2_with fail
  refine (uh C).mono ?_;rintro r ws ⟨rfl,hws⟩;replace hws:=hws.symm;subst hws;go_wp2_with fail
  refine (uh CD).mono ?_;rintro r ws ⟨rfl,hws⟩;replace hws:=hws.symm;subst hws;go_wp2
  go_ret
  exact ⟨rfl,rfl⟩
theorem lJ (v:Value) (F:List Op.Opt) (w:World) (hm:F.length≤maxLen) (h:HoldsO w v F):Calls prog 152 #[v] w fun e w'=>e=.returned (.bool (cC F))∧Below w.heap.size w w':=by
 have C1:=aa fun W (hb:Below w.heap.size w W)=>cq v F W hm (h.below hb rfl)
 unfold cC;cases hr:Op.right F
 ·rw [Bool.false_and];rw [hr] at C1;obtain ⟨ad,cp,rfl⟩:=h.form;clear h;go_enter func152,ntmps152
  go_wp2_with fail
  refine (uh C1 _ (zC _ _)).mono ?_;rintro e w1 ⟨rfl,hb1⟩;go_wp2
  go_ret
  exact ⟨rfl,hb1⟩
 ·rw [Bool.true_and];rw [hr] at C1;have C2:=aa fun W (hb:Below w.heap.size w W)=>cP v F W hm (h.below hb rfl)
  rw [fI hr] at C2;obtain ⟨ad,cp,rfl⟩:=h.form;have hsz:(co (Op.bytes F)).size=(Op.bytes F).length:=by unfold co;show (Op.bytes F).toArray.size=_;simp
  clear h;generalize co (Op.bytes F)=tb at *;rw [← hsz];go_enter func152,ntmps152
  go_wp2_with fail
  refine (uh C1 _ (zC _ _)).mono ?_;rintro e w1 ⟨rfl,hb1⟩;go_wp2_with fail
  refine (uh C2 _ hb1).mono ?_;rintro e w2 ⟨rfl,hb2⟩;go_wp2
  go_ret
  exact ⟨congrArg (fun b=>Ending.returned (.bool b)) (decide_eq_decide.2 (by omega)),hb1.trans (hb2.mono hb1.size)⟩
def fK (e:En) (F1 F2:List Op.Opt):Bool:=(e.up == (e.st == 9)) && (if e.up=true then dQ e.i1 e.i2 e.i3 e.i4 e.i5 (aQ F1) && dQ e.o1 e.o2 e.o3 e.o4 e.o5 (aQ F2) else dQ e.i1 e.i2 e.i3 e.i4 e.i5 ⟨0,0,false,false,false⟩ && dQ e.o1 e.o2 e.o3 e.o4 e.o5 ⟨0,0,false,false,false⟩)
theorem kt (e:En) (B:Nat) (x1 x2:Option Addr) (y1 y2:Nat) (F1 F2:List Op.Opt) (w:World) (l1:F1.length≤maxLen) (l2:F2.length≤maxLen) (h1:HoldsO w (.slice x1 F1.length y1) F1) (h2:HoldsO w (.slice x2 F2.length y2) F2)
  (hB:w.heap[B]?=some (.cells (aA e (.slice x1 F1.length y1) (.slice x2 F2.length y2)) 72)) (hEq:yd) :
  Calls prog 153 #[.pointer (some ⟨B,0,none⟩)] w fun r w'=>r=.returned (.bool (fK e F1 F2))∧Below w.heap.size w w':=by
 have HEQ:=aa hEq;clear hEq;have CL1:=aa fun W (hb:Below w.heap.size w W)=>gv _ F1 W l1 (h1.below hb rfl)
 have CL2:=aa fun W (hb:Below w.heap.size w W)=>gv _ F2 W l2 (h2.below hb rfl)
 obtain ⟨m1,a1,g1,p1,c1,d1,m2,a2,g2,p2,c2,d2,st,tr,du,id,fl,up,i1,i2,i3,i4,i5,o1,o2,o3,o4,o5⟩:=e;obtain ⟨R,hR⟩:∃ R,fK ⟨m1,a1,g1,p1,c1,d1,m2,a2,g2,p2,c2,d2,st,tr,du,id,fl,up,i1,i2,i3,i4,i5,o1,o2,o3,o4,o5⟩ F1 F2=R:=⟨_,rfl⟩;rw [hR];unfold fK at hR;dsimp only at hR;unfold aA at hB;dsimp only at hB;generalize aQ F1=L1 at *;generalize aQ F2=L2 at *;have HR:=aa hR;clear h1 h2 l1 l2 hR;generalize F1.length=n1 at *;generalize F2.length=n2 at *;have hlA:B<w.heap.size:=(ge.1 hB).1;have c12:w.cell? ⟨B,12,none⟩=some (.int .i64 st):=by rw [cr hB];rfl
 have c17:w.cell? ⟨B,17,none⟩=some (.slice x1 n1 y1):=by rw [cr hB];rfl
 have c18:w.cell? ⟨B,18,none⟩=some (.slice x2 n2 y2):=by rw [cr hB];rfl
 have c19:w.cell? ⟨B,19,none⟩=some (.bool up):=by rw [cr hB];rfl
 have c20:w.cell? ⟨B,20,none⟩=some (.int .i64 i1):=by rw [cr hB];rfl
 have c21:w.cell? ⟨B,21,none⟩=some (.int .i64 i2):=by rw [cr hB];rfl
 have c22:w.cell? ⟨B,22,none⟩=some (.bool i3):=by rw [cr hB];rfl
 have c23:w.cell? ⟨B,23,none⟩=some (.bool i4):=by rw [cr hB];rfl
 have c24:w.cell? ⟨B,24,none⟩=some (.bool i5):=by rw [cr hB];rfl
 have c25:w.cell? ⟨B,25,none⟩=some (.int .i64 o1):=by rw [cr hB];rfl
 have c26:w.cell? ⟨B,26,none⟩=some (.int .i64 o2):=by rw [cr hB];rfl
 have c27:w.cell? ⟨B,27,none⟩=some (.bool o3):=by rw [cr hB];rfl
 have c28:w.cell? ⟨B,28,none⟩=some (.bool o4):=by rw [cr hB];rfl
 have c29:w.cell? ⟨B,29,none⟩=some (.bool o5):=by rw [cr hB];rfl
 have HB:=aa hB;clear hB;cases hup:(up == (st == 9))
 ·rw [hup,Bool.false_and] at HR;have e:=uh HR;subst e;clear HR;have hn:(up != (st == 9))=true:=by unfold bne;rw [hup];rfl
  go_enter func153,ntmps153
  go_upto_region 1 with fail
  go_quiet (fail)
  go_wp2
  go_ret
  exact ⟨rfl,aH (zC _ _) _⟩
 have hn:(up != (st == 9))=false:=by unfold bne;rw [hup];rfl
 rw [hup,Bool.true_and] at HR;go_enter func153,ntmps153
 go_upto_region 1 with fail
 go_quiet (fail)
 go_upto_region 3 with fail
 clear c12 c17 c18 c19 c20 c21 c22 c23 c24 c25 c26 c27 c28 c29;refine aI (fun q=>q.heap[B]?=some (.cells #[.int .i64 m1,.int .i64 a1,.int .i64 g1,.bool p1,.bool c1,.bool d1,.int .i64 m2,.int .i64 a2,.int .i64 g2,.bool p2,.bool c2,.bool d2,.int .i64 st,.int .i64 tr,.int .i64 du,.int .i64 id,.int .i64 fl,.slice x1 n1 y1,.slice x2 n2 y2,.bool up,.int .i64 i1,.int .i64 i2,.bool i3,.bool i4,.bool i5,.int .i64 o1,.int .i64 o2,.bool o3,.bool o4,.bool o5] 72)∧Below w.heap.size w q) ?_ ?_
 ·exact ⟨uh HB,aH (zC _ _) _⟩
 rintro q ⟨hq,hbq⟩;have hlq:B<q.heap.size:=(ge.1 hq).1;have c17:q.cell? ⟨B,17,none⟩=some (.slice x1 n1 y1):=by rw [cr hq];rfl
 have c18:q.cell? ⟨B,18,none⟩=some (.slice x2 n2 y2):=by rw [cr hq];rfl
 have c19:q.cell? ⟨B,19,none⟩=some (.bool up):=by rw [cr hq];rfl
 have c20:q.cell? ⟨B,20,none⟩=some (.int .i64 i1):=by rw [cr hq];rfl
 have c21:q.cell? ⟨B,21,none⟩=some (.int .i64 i2):=by rw [cr hq];rfl
 have c22:q.cell? ⟨B,22,none⟩=some (.bool i3):=by rw [cr hq];rfl
 have c23:q.cell? ⟨B,23,none⟩=some (.bool i4):=by rw [cr hq];rfl
 have c24:q.cell? ⟨B,24,none⟩=some (.bool i5):=by rw [cr hq];rfl
 have c25:q.cell? ⟨B,25,none⟩=some (.int .i64 o1):=by rw [cr hq];rfl
 have c26:q.cell? ⟨B,26,none⟩=some (.int .i64 o2):=by rw [cr hq];rfl
 have c27:q.cell? ⟨B,27,none⟩=some (.bool o3):=by rw [cr hq];rfl
 have c28:q.cell? ⟨B,28,none⟩=some (.bool o4):=by rw [cr hq];rfl
 have c29:q.cell? ⟨B,29,none⟩=some (.bool o5):=by rw [cr hq];rfl
 have HQ:=aa (zA hq hbq);clear hq hbq HB;cases up
 ·rw [if_neg (by decide)] at HR;have q1:∀ W,(binOp .eql 70 (.agg #[.int .i64 i1,.int .i64 i2,.bool i3,.bool i4,.bool i5]) (.agg #[.int .i64 0,.int .i64 0,.bool false,.bool false,.bool false])).run prog W=.ok (.bool (dQ i1 i2 i3 i4 i5 ⟨0,0,false,false,false⟩)) W:=fun W=>(uh HEQ).1 i1 i2 0 0 i3 i4 i5 false false false W
  have q2:∀ W,(binOp .eql 70 (.agg #[.int .i64 o1,.int .i64 o2,.bool o3,.bool o4,.bool o5]) (.agg #[.int .i64 0,.int .i64 0,.bool false,.bool false,.bool false])).run prog W=.ok (.bool (dQ o1 o2 o3 o4 o5 ⟨0,0,false,false,false⟩)) W:=fun W=>(uh HEQ).1 o1 o2 0 0 o3 o4 o5 false false false W
  have q3:=(uh HEQ).2;clear CL1 CL2 HEQ;generalize dQ i1 i2 i3 i4 i5 ⟨0,0,false,false,false⟩=bi at *;generalize dQ o1 o2 o3 o4 o5 ⟨0,0,false,false,false⟩=bo at *;cases bi
  ·rw [Bool.false_and] at HR;have e:=uh HR;subst e;clear HR;go_wp2
   go_ret
   exact ⟨rfl,(uh HQ).2⟩
  ·rw [Bool.true_and] at HR;have e:=uh HR;subst e;clear HR;go_wp2
   go_ret
   exact ⟨rfl,(uh HQ).2⟩
 ·rw [if_pos rfl] at HR;have q1:∀ W,(binOp .eql 70 (.agg #[.int .i64 i1,.int .i64 i2,.bool i3,.bool i4,.bool i5]) (.agg (gR L1))).run prog W=.ok (.bool (dQ i1 i2 i3 i4 i5 L1)) W:=fun W=>(uh HEQ).1 i1 i2 L1.m L1.a i3 i4 i5 L1.p L1.c L1.d W
  have q2:∀ W,(binOp .eql 70 (.agg #[.int .i64 o1,.int .i64 o2,.bool o3,.bool o4,.bool o5]) (.agg (gR L2))).run prog W=.ok (.bool (dQ o1 o2 o3 o4 o5 L2)) W:=fun W=>(uh HEQ).1 o1 o2 L2.m L2.a o3 o4 o5 L2.p L2.c L2.d W
  have q3:=(uh HEQ).2;clear HEQ;generalize dQ i1 i2 i3 i4 i5 L1=bi at *;generalize dQ o1 o2 o3 o4 o5 L2=bo at *;go_upto_region 4 with fail
  refine wp_region_held_drew (S:=fun z=>z.cell? ⟨B,17,none⟩=some (.slice x1 n1 y1)∧z.cell? ⟨B,18,none⟩=some (.slice x2 n2 y2)∧z.cell? ⟨B,20,none⟩=some (.int .i64 i1)∧z.cell? ⟨B,21,none⟩=some (.int .i64 i2)∧z.cell? ⟨B,22,none⟩=some (.bool i3)∧z.cell? ⟨B,23,none⟩=some (.bool i4)∧z.cell? ⟨B,24,none⟩=some (.bool i5)∧z.cell? ⟨B,25,none⟩=some (.int .i64 o1)∧z.cell? ⟨B,26,none⟩=some (.int .i64 o2)∧z.cell? ⟨B,27,none⟩=some (.bool o3)∧z.cell? ⟨B,28,none⟩=some (.bool o4)∧z.cell? ⟨B,29,none⟩=some (.bool o5)) (by kernel_rfl) ?_ (fun hHeld=>?_)
  ·exact ⟨c17,c18,c20,c21,c22,c23,c24,c25,c26,c27,c28,c29⟩
  cases bi
  ·rw [Bool.false_and] at HR;have e:=uh HR;subst e;clear HR;refine tq 0 1 2 3 ?_;refine tq 4 5 6 7 ?_;refine r3 8 fun K hK=>?_
   go_simp;refine (uh CL1 _ ((uh HQ).2.trans ((zC _ _).drew.mono (uh HQ).2.size))).mono ?_;rintro r w10 ⟨rfl,hb⟩;have B10:Below q.heap.size q w10:=(zC _ _).drew.trans hb;clear hb;go_wp2_with fail
   refine hK.out _ _ ?_ (fun hHeld10=>?_)
   ·exact ⟨(B10.cell (p:=⟨B,17,none⟩) hlq).trans c17,(B10.cell (p:=⟨B,18,none⟩) hlq).trans c18,(B10.cell (p:=⟨B,20,none⟩) hlq).trans c20,(B10.cell (p:=⟨B,21,none⟩) hlq).trans c21,(B10.cell (p:=⟨B,22,none⟩) hlq).trans c22,(B10.cell (p:=⟨B,23,none⟩) hlq).trans c23,(B10.cell (p:=⟨B,24,none⟩) hlq).trans c24,(B10.cell (p:=⟨B,25,none⟩) hlq).trans c25,(B10.cell (p:=⟨B,26,none⟩) hlq).trans c26,(B10.cell (p:=⟨B,27,none⟩) hlq).trans c27,(B10.cell (p:=⟨B,28,none⟩) hlq).trans c28,(B10.cell (p:=⟨B,29,none⟩) hlq).trans c29⟩
   clear hK K;try simp only [Act.put,sA,sZ,sS,gA,gZ,gS]
   refine tt 9 10 ?_;refine t5 11 ?_;refine t5 12 ?_;refine t5 13 ?_;refine t5 14 ?_;refine t5 15 ?_;refine t5 16 ?_;refine t5 17 ?_;refine t5 18 ?_;refine t5 19 ?_;refine t5 20 ?_;refine tt 21 22 ?_;refine dn ?_ _;go_wp2
   go_ret
   exact ⟨rfl,(uh HQ).2.trans (B10.mono (uh HQ).2.size)⟩
  ·rw [Bool.true_and] at HR;have e:=uh HR;subst e;clear HR;refine tq 0 1 2 3 ?_;refine tq 4 5 6 7 ?_;refine r3 8 fun K hK=>?_
   go_simp;refine (uh CL1 _ ((uh HQ).2.trans ((zC _ _).drew.mono (uh HQ).2.size))).mono ?_;rintro r w10 ⟨rfl,hb⟩;have B10:Below q.heap.size q w10:=(zC _ _).drew.trans hb;clear hb;go_wp2_with fail
   refine hK.out _ _ ?_ (fun hHeld10=>?_)
   ·exact ⟨(B10.cell (p:=⟨B,17,none⟩) hlq).trans c17,(B10.cell (p:=⟨B,18,none⟩) hlq).trans c18,(B10.cell (p:=⟨B,20,none⟩) hlq).trans c20,(B10.cell (p:=⟨B,21,none⟩) hlq).trans c21,(B10.cell (p:=⟨B,22,none⟩) hlq).trans c22,(B10.cell (p:=⟨B,23,none⟩) hlq).trans c23,(B10.cell (p:=⟨B,24,none⟩) hlq).trans c24,(B10.cell (p:=⟨B,25,none⟩) hlq).trans c25,(B10.cell (p:=⟨B,26,none⟩) hlq).trans c26,(B10.cell (p:=⟨B,27,none⟩) hlq).trans c27,(B10.cell (p:=⟨B,28,none⟩) hlq).trans c28,(B10.cell (p:=⟨B,29,none⟩) hlq).trans c29⟩
   clear hK K;try simp only [Act.put,sA,sZ,sS,gA,gZ,gS]
   refine tq 9 10 11 12 ?_;refine tq 13 14 15 16 ?_;refine tt 17 18 ?_;refine r3 19 fun K hK=>?_
   go_simp;refine (uh CL2 _ ((uh HQ).2.trans (B10.mono (uh HQ).2.size))).mono ?_;rintro r w11 ⟨rfl,hb⟩;have B11:Below q.heap.size q w11:=B10.trans (hb.mono B10.size);clear hb;go_wp2_with fail
   refine hK.out _ _ ?_ (fun hHeld11=>?_)
   ·exact ⟨(B11.cell (p:=⟨B,17,none⟩) hlq).trans c17,(B11.cell (p:=⟨B,18,none⟩) hlq).trans c18,(B11.cell (p:=⟨B,20,none⟩) hlq).trans c20,(B11.cell (p:=⟨B,21,none⟩) hlq).trans c21,(B11.cell (p:=⟨B,22,none⟩) hlq).trans c22,(B11.cell (p:=⟨B,23,none⟩) hlq).trans c23,(B11.cell (p:=⟨B,24,none⟩) hlq).trans c24,(B11.cell (p:=⟨B,25,none⟩) hlq).trans c25,(B11.cell (p:=⟨B,26,none⟩) hlq).trans c26,(B11.cell (p:=⟨B,27,none⟩) hlq).trans c27,(B11.cell (p:=⟨B,28,none⟩) hlq).trans c28,(B11.cell (p:=⟨B,29,none⟩) hlq).trans c29⟩
   clear hK K;try simp only [Act.put,sA,sZ,sS,gA,gZ,gS]
   refine tt 20 21 ?_;refine t2 22 ?_;refine dn ?_ _;go_wp2
   go_ret
   exact ⟨rfl,(uh HQ).2.trans (B11.mono (uh HQ).2.size)⟩
theorem ir (e:En) (x1 x2:Option Addr) (y1 y2:Nat) (F1 F2:List Op.Opt) (w:World) (l1:F1.length≤maxLen) (l2:F2.length≤maxLen) (h1:HoldsO w (.slice x1 F1.length y1) F1) (h2:HoldsO w (.slice x2 F2.length y2) F2) (hEq:yd) :
  Calls prog 129 #[.agg (aA e (.slice x1 F1.length y1) (.slice x2 F2.length y2))] w fun r w'=>r=.returned (.bool (dJ e F1 F2))∧Below w.heap.size w w':=by
 have C7:=aa fun W (hb:Below w.heap.size w W)=>lJ _ F1 W l1 (h1.below hb rfl)
 have C8:=aa fun W (hb:Below w.heap.size w W)=>lJ _ F2 W l2 (h2.below hb rfl)
 have C9:=aa fun W (hb:Below w.heap.size w W) (hB)=>kt e w.heap.size x1 x2 y1 y2 F1 F2 W l1 l2 (h1.below hb rfl) (h2.below hb rfl) hB hEq
 obtain ⟨m1,a1,g1,p1,c1,d1,m2,a2,g2,p2,c2,d2,st,tr,du,id,fl,up,i1,i2,i3,i4,i5,o1,o2,o3,o4,o5⟩:=e;have hA:=zF w (.cells (aA ⟨m1,a1,g1,p1,c1,d1,m2,a2,g2,p2,c2,d2,st,tr,du,id,fl,up,i1,i2,i3,i4,i5,o1,o2,o3,o4,o5⟩ (.slice x1 F1.length y1) (.slice x2 F2.length y2)) 72);have hbA:Below w.heap.size w (w.alloc (.cells (aA ⟨m1,a1,g1,p1,c1,d1,m2,a2,g2,p2,c2,d2,st,tr,du,id,fl,up,i1,i2,i3,i4,i5,o1,o2,o3,o4,o5⟩ (.slice x1 F1.length y1) (.slice x2 F2.length y2)) 72)):=(zC _ _).alloc (zD _) _;have CC1:=aa fun W=>dm m1 a1 g1 p1 c1 d1 W
 have CC2:=aa fun W=>dm m2 a2 g2 p2 c2 d2 W
 have CI1:=aa fun W=>cE st 0 9 W
 have CI2:=aa fun W=>cE tr 0 5 W
 have CI3:=aa fun W=>ra id W
 have CI4:=aa fun W=>cE fl 0 3 W
 have CD:=aa fun W=>sG w.heap.size st du W
 obtain ⟨R,hR⟩:∃ R,dJ ⟨m1,a1,g1,p1,c1,d1,m2,a2,g2,p2,c2,d2,st,tr,du,id,fl,up,i1,i2,i3,i4,i5,o1,o2,o3,o4,o5⟩ F1 F2=R:=⟨_,rfl⟩;rw [hR];have hR2:(aK m1 a1 g1 && (aK m2 a2 g2 && (al 0 9 st && (al 0 5 tr && ((if gj st=true then al 0 1000000003 du else du == -1) && ((decide (0≤id) && decide (id≤255)) && (al 0 3 fl && (cC F1 && (cC F2 && fK ⟨m1,a1,g1,p1,c1,d1,m2,a2,g2,p2,c2,d2,st,tr,du,id,fl,up,i1,i2,i3,i4,i5,o1,o2,o3,o4,o5⟩ F1 F2)))))))))=R:=by
  rw [← hR];unfold dJ fK;dsimp only;ac_rfl
 clear hR;unfold aA at hA hbA C9 ⊢;dsimp only at hA hbA C9 ⊢;generalize fK ⟨m1,a1,g1,p1,c1,d1,m2,a2,g2,p2,c2,d2,st,tr,du,id,fl,up,i1,i2,i3,i4,i5,o1,o2,o3,o4,o5⟩ F1 F2=b10 at *;generalize aK m1 a1 g1=b1 at *;generalize aK m2 a2 g2=b2 at *;generalize al 0 9 st=b3 at *;generalize al 0 5 tr=b4 at *;generalize (if gj st=true then al 0 1000000003 du else du == -1)=b5 at *;generalize (decide (0≤id) && decide (id≤255))=b6 at *;generalize al 0 3 fl=b7 at *;generalize cC F1=b8 at *;generalize cC F2=b9 at *;have HR:=aa hR2;have HA:=aa (zA hA hbA);clear hA hbA h1 h2 l1 l2 hR2 hEq;generalize F1.length=n1 at *;generalize F2.length=n2 at *;go_enter func129,ntmps129
 go_wp2_with fail
 refine (uh CC1 _).mono ?_;rintro r w1 ⟨rfl,hb1⟩;have hr1:=(hb1.block w.heap.size (ge.1 (uh HA).1).1).trans (uh HA).1;have hB1:=(uh HA).2.trans (hb1.mono (uh HA).2.size);have c6:w1.cell? ⟨w.heap.size,6,none⟩=some (.int .i64 m2):=by rw [cr hr1];rfl
 have c7:w1.cell? ⟨w.heap.size,7,none⟩=some (.int .i64 a2):=by rw [cr hr1];rfl
 have c8:w1.cell? ⟨w.heap.size,8,none⟩=some (.int .i64 g2):=by rw [cr hr1];rfl
 have c9:w1.cell? ⟨w.heap.size,9,none⟩=some (.bool p2):=by rw [cr hr1];rfl
 have c10:w1.cell? ⟨w.heap.size,10,none⟩=some (.bool c2):=by rw [cr hr1];rfl
 have c11:w1.cell? ⟨w.heap.size,11,none⟩=some (.bool d2):=by rw [cr hr1];rfl
 have H1:=aa (zA hr1 hB1);clear hr1 hB1 hb1 HA;cases b1
 ·rw [Bool.false_and] at HR;have e:=uh HR;subst e;clear HR;go_wp2
  go_ret
  exact ⟨rfl,(uh H1).2⟩
 rw [Bool.true_and] at HR;go_wp2_with fail
 refine (uh CC2 _).mono ?_;rintro r w2 ⟨rfl,hb2⟩;have hr2:=(hb2.block w.heap.size (ge.1 (uh H1).1).1).trans (uh H1).1;have hB2:=(uh H1).2.trans (hb2.mono (uh H1).2.size);clear c6 c7 c8 c9 c10 c11;have c12:w2.cell? ⟨w.heap.size,12,none⟩=some (.int .i64 st):=by rw [cr hr2];rfl
 have c13:w2.cell? ⟨w.heap.size,13,none⟩=some (.int .i64 tr):=by rw [cr hr2];rfl
 have c14:w2.cell? ⟨w.heap.size,14,none⟩=some (.int .i64 du):=by rw [cr hr2];rfl
 have c15:w2.cell? ⟨w.heap.size,15,none⟩=some (.int .i64 id):=by rw [cr hr2];rfl
 have c16:w2.cell? ⟨w.heap.size,16,none⟩=some (.int .i64 fl):=by rw [cr hr2];rfl
 have c17:w2.cell? ⟨w.heap.size,17,none⟩=some (.slice x1 n1 y1):=by rw [cr hr2];rfl
 have H2:=aa (zA hr2 hB2);clear hr2 hB2 hb2 H1;cases b2
 ·rw [Bool.false_and] at HR;have e:=uh HR;subst e;clear HR;go_wp2
  go_ret
  exact ⟨rfl,(uh H2).2⟩
 rw [Bool.true_and] at HR;go_wp2_with fail
 refine (uh CI1 _).mono ?_;rintro r ws ⟨rfl,hws⟩;replace hws:=hws.symm;subst hws;cases b3
 ·rw [Bool.false_and] at HR;have e:=uh HR;subst e;clear HR;go_wp2
  go_ret
  exact ⟨rfl,(uh H2).2⟩
 rw [Bool.true_and] at HR;go_wp2_with fail
 refine (uh CI2 _).mono ?_;rintro r ws ⟨rfl,hws⟩;replace hws:=hws.symm;subst hws;cases b4
 ·rw [Bool.false_and] at HR;have e:=uh HR;subst e;clear HR;go_wp2
  go_ret
  exact ⟨rfl,(uh H2).2⟩
 rw [Bool.true_and] at HR;go_wp2_with fail
 refine (uh CD _ c12 c14).mono ?_;rintro r ws ⟨rfl,hws⟩;replace hws:=hws.symm;subst hws;cases b5
 ·rw [Bool.false_and] at HR;have e:=uh HR;subst e;clear HR;go_wp2
  go_ret
  exact ⟨rfl,(uh H2).2⟩
 rw [Bool.true_and] at HR;go_wp2_with fail
 refine (uh CI3 _).mono ?_;rintro r ws ⟨rfl,hws⟩;replace hws:=hws.symm;subst hws;cases b6
 ·rw [Bool.false_and] at HR;have e:=uh HR;subst e;clear HR;go_wp2
  go_ret
  exact ⟨rfl,(uh H2).2⟩
 rw [Bool.true_and] at HR;go_wp2_with fail
 refine (uh CI4 _).mono ?_;rintro r ws ⟨rfl,hws⟩;replace hws:=hws.symm;subst hws;cases b7
 ·rw [Bool.false_and] at HR;have e:=uh HR;subst e;clear HR;go_wp2
  go_ret
  exact ⟨rfl,(uh H2).2⟩
 rw [Bool.true_and] at HR;go_wp2_with fail
 refine (uh C7 _ (uh H2).2).mono ?_;rintro r w8 ⟨rfl,hb8⟩;have hr8:=(hb8.block w.heap.size (ge.1 (uh H2).1).1).trans (uh H2).1;have hB8:=(uh H2).2.trans (hb8.mono (uh H2).2.size);clear c12 c13 c14 c15 c16 c17;have c18:w8.cell? ⟨w.heap.size,18,none⟩=some (.slice x2 n2 y2):=by rw [cr hr8];rfl
 have H8:=aa (zA hr8 hB8);clear hr8 hB8 hb8 H2;cases b8
 ·rw [Bool.false_and] at HR;have e:=uh HR;subst e;clear HR;go_wp2
  go_ret
  exact ⟨rfl,(uh H8).2⟩
 rw [Bool.true_and] at HR;go_wp2_with fail
 refine (uh C8 _ (uh H8).2).mono ?_;rintro r w9 ⟨rfl,hb9⟩;have hr9:=(hb9.block w.heap.size (ge.1 (uh H8).1).1).trans (uh H8).1;have hB9:=(uh H8).2.trans (hb9.mono (uh H8).2.size);clear c18;have H9:=aa (zA hr9 hB9);clear hr9 hB9 hb9 H8;cases b9
 ·rw [Bool.false_and] at HR;have e:=uh HR;subst e;clear HR;go_wp2
  go_ret
  exact ⟨rfl,(uh H9).2⟩
 rw [Bool.true_and] at HR;go_wp2_with fail
 refine (uh C9 _ (uh H9).2 (uh H9).1).mono ?_;rintro r w10 ⟨rfl,hb10⟩;have e:=uh HR;subst e;clear HR;go_wp2
 go_ret
 exact ⟨rfl,(uh H9).2.trans (hb10.mono (uh H9).2.size)⟩
end Go.Proofs.YtjebigodbnefiaaGreatDoor
