/- LnM RuleOf LnI -/
import Derived.Test.YtjdgiimfpkideaaGreatDoorS01
set_option maxHeartbeats 4000000
set_option maxRecDepth 100000
namespace Go.Proofs.YtjdgiimfpkideaaGreatDoor
open Go.RowKit Go.Proofs.Tryz
structure Ln where
 m:Nat
 a:Nat
 p:Bool
 c:Bool
 d:Bool
abbrev gR (x:Ln):Array Value:=#[.int .i64 x.m,.int .i64 x.a,.bool x.p,.bool x.c,.bool x.d]
def gT (k:Int) (x:Ln) (n:Nat):Ln :=
 if k=1 then (if al 64 300 (n:Int)=true then { x with m:=n } else x) else if k=2 then { x with a:=n } else if k=7 then { x with p:=true } else if k=8 then { x with c:=true } else if k=9 then { x with d:=x.d || ((n:Int) == 4) } else x
def nw (x:Ln) (o:Op.Opt):Ln:=if bN o.kind=some o.data.size then gT o.kind x (ax o.data.data.toList) else x
def ep (F:List Op.Opt):Ln:=F.foldl nw ⟨300,4294967295,false,false,false⟩
def bc (F:List Op.Opt):Ln:=if Op.right F=true then ep F else ⟨0,0,false,false,false⟩
theorem i_ (F:List Op.Opt) (i:Nat) (hi:i<F.length):ep (F.take (i+1))=nw (ep (F.take i)) F[i]:=by
 unfold ep;rw [List.take_succ_eq_append_getElem hi,List.foldl_append];rfl
theorem vQ (x:Ln) (n:Nat) (w:World):Calls prog 175 #[.agg (gR x),.int .i64 n] w fun e w'=>e=.returned (.agg (gR (gT 1 x n)))∧Below w.heap.size w w':=by
 have C:=aa fun v=>iY (n:Int) v
 obtain ⟨m,a,p,c,d⟩:=x;unfold gT;rw [if_pos rfl];cases hq:al 64 300 (n:Int)
 ·rw [if_neg (by decide)];rw [hq] at C;unfold gR;dsimp only;go_enter func175,ntmps175
  go_wp2_with (first | (go_at_call 36;refine (uh C _).mono ?_;rintro e w1 ⟨rfl,rfl⟩))
  exact bodyPost_ret (v:=.agg #[.int .i64 m,.int .i64 a,.bool p,.bool c,.bool d]) (by simp [results,results175,go_sem]) rfl ⟨rfl,((zC _ _).alloc (zD _) _).alloc (by simp) _⟩
 ·rw [if_pos rfl];rw [hq] at C;unfold gR;dsimp only;go_enter func175,ntmps175
  go_wp2_with (first | (go_at_call 36;refine (uh C _).mono ?_;rintro e w1 ⟨rfl,rfl⟩))
  exact bodyPost_ret (v:=.agg #[.int .i64 n,.int .i64 a,.bool p,.bool c,.bool d]) (by simp [results,results175,go_sem]) rfl ⟨rfl,((zC _ _).alloc (zD _) _).alloc (by simp) _⟩
theorem vR (x:Ln) (n:Nat) (w:World):Calls prog 180 #[.agg (gR x),.int .i64 n] w fun e w'=>e=.returned (.agg (gR (gT 2 x n)))∧Below w.heap.size w w':=by
 obtain ⟨m,a,p,c,d⟩:=x;show Calls prog 180 #[.agg #[.int .i64 m,.int .i64 a,.bool p,.bool c,.bool d],.int .i64 n] w fun e w'=>e=.returned (.agg #[.int .i64 m,.int .i64 n,.bool p,.bool c,.bool d])∧Below w.heap.size w w'
 go_enter func180,ntmps180
 go_wp2
 exact bodyPost_ret (v:=.agg #[.int .i64 m,.int .i64 n,.bool p,.bool c,.bool d]) (by simp [results,results180,go_sem]) rfl ⟨rfl,((zC _ _).alloc (zD _) _).alloc (by simp) _⟩
theorem vS (x:Ln) (n:Nat) (w:World):Calls prog 186 #[.agg (gR x),.int .i64 n] w fun e w'=>e=.returned (.agg (gR (gT 5 x n)))∧Below w.heap.size w w':=by
 obtain ⟨m,a,p,c,d⟩:=x;show Calls prog 186 #[.agg #[.int .i64 m,.int .i64 a,.bool p,.bool c,.bool d],.int .i64 n] w fun e w'=>e=.returned (.agg #[.int .i64 m,.int .i64 a,.bool p,.bool c,.bool d])∧Below w.heap.size w w'
 go_enter func186,ntmps186
 go_wp2
 exact bodyPost_ret (v:=.agg #[.int .i64 m,.int .i64 a,.bool p,.bool c,.bool d]) (by simp [results,results186,go_sem]) rfl ⟨rfl,((zC _ _).alloc (zD _) _).alloc (by simp) _⟩
theorem vT (x:Ln) (n:Nat) (w:World):Calls prog 191 #[.agg (gR x),.int .i64 n] w fun e w'=>e=.returned (.agg (gR (gT 7 x n)))∧Below w.heap.size w w':=by
 obtain ⟨m,a,p,c,d⟩:=x;show Calls prog 191 #[.agg #[.int .i64 m,.int .i64 a,.bool p,.bool c,.bool d],.int .i64 n] w fun e w'=>e=.returned (.agg #[.int .i64 m,.int .i64 a,.bool true,.bool c,.bool d])∧Below w.heap.size w w'
 go_enter func191,ntmps191
 go_wp2
 exact bodyPost_ret (v:=.agg #[.int .i64 m,.int .i64 a,.bool true,.bool c,.bool d]) (by simp [results,results191,go_sem]) rfl ⟨rfl,((zC _ _).alloc (zD _) _).alloc (by simp) _⟩
theorem vU (x:Ln) (n:Nat) (w:World):Calls prog 196 #[.agg (gR x),.int .i64 n] w fun e w'=>e=.returned (.agg (gR (gT 8 x n)))∧Below w.heap.size w w':=by
 obtain ⟨m,a,p,c,d⟩:=x;show Calls prog 196 #[.agg #[.int .i64 m,.int .i64 a,.bool p,.bool c,.bool d],.int .i64 n] w fun e w'=>e=.returned (.agg #[.int .i64 m,.int .i64 a,.bool p,.bool true,.bool d])∧Below w.heap.size w w'
 go_enter func196,ntmps196
 go_wp2
 exact bodyPost_ret (v:=.agg #[.int .i64 m,.int .i64 a,.bool p,.bool true,.bool d]) (by simp [results,results196,go_sem]) rfl ⟨rfl,((zC _ _).alloc (zD _) _).alloc (by simp) _⟩
theorem vV (x:Ln) (n:Nat) (w:World):Calls prog 201 #[.agg (gR x),.int .i64 n] w fun e w'=>e=.returned (.agg (gR (gT 9 x n)))∧Below w.heap.size w w':=by
 obtain ⟨m,a,p,c,d⟩:=x;cases d
 ·show Calls prog 201 #[.agg #[.int .i64 m,.int .i64 a,.bool p,.bool c,.bool false],.int .i64 n] w fun e w'=>e=.returned (.agg #[.int .i64 m,.int .i64 a,.bool p,.bool c,.bool ((n:Int) == 4)])∧Below w.heap.size w w'
  go_enter func201,ntmps201
  go_wp2
  exact bodyPost_ret (v:=.agg #[.int .i64 m,.int .i64 a,.bool p,.bool c,.bool ((n:Int) == 4)]) (by simp [results,results201,go_sem]) rfl ⟨rfl,((zC _ _).alloc (zD _) _).alloc (by simp) _⟩
 ·show Calls prog 201 #[.agg #[.int .i64 m,.int .i64 a,.bool p,.bool c,.bool true],.int .i64 n] w fun e w'=>e=.returned (.agg #[.int .i64 m,.int .i64 a,.bool p,.bool c,.bool true])∧Below w.heap.size w w'
  go_enter func201,ntmps201
  go_wp2
  exact bodyPost_ret (v:=.agg #[.int .i64 m,.int .i64 a,.bool p,.bool c,.bool true]) (by simp [results,results201,go_sem]) rfl ⟨rfl,((zC _ _).alloc (zD _) _).alloc (by simp) _⟩
structure LnR (k:Int) (s f f2 f3 f4 f5 j:Nat):Prop where
 fd:Instr.findNow (.int .i64) (.int .i64 k) cI.toList 0=some (some (j,aZ s f f2 f3 f4 f5))
 cf:∀ args W,(callFunc f5 args).run prog W=.ok (.enter f5 args) W
 ln:∀ (x:Ln) (n:Nat) v,Calls prog f5 #[.agg (gR x),.int .i64 n] v fun e w'=>e=.returned (.agg (gR (gT k x n)))∧Below v.heap.size v w'
theorem ur (k:Int):(∃ s f f2 f3 f4 f5 j,bN k=some s∧LnR k s f f2 f3 f4 f5 j)∨(bN k=none∧Instr.findNow (.int .i64) (.int .i64 k) cI.toList 0=some none):=by
 by_cases h1:k=1
 ·subst h1;exact Or.inl ⟨2,_,_,_,_,_,_,rfl,⟨rfl,bM (by kernel_rfl),fun x n v=>vQ x n v⟩⟩
 by_cases h2:k=2
 ·subst h2;exact Or.inl ⟨4,_,_,_,_,_,_,rfl,⟨rfl,bM (by kernel_rfl),fun x n v=>vR x n v⟩⟩
 by_cases h5:k=5
 ·subst h5;exact Or.inl ⟨4,_,_,_,_,_,_,rfl,⟨rfl,bM (by kernel_rfl),fun x n v=>vS x n v⟩⟩
 by_cases h7:k=7
 ·subst h7;exact Or.inl ⟨0,_,_,_,_,_,_,rfl,⟨rfl,bM (by kernel_rfl),fun x n v=>vT x n v⟩⟩
 by_cases h8:k=8
 ·subst h8;exact Or.inl ⟨0,_,_,_,_,_,_,rfl,⟨rfl,bM (by kernel_rfl),fun x n v=>vU x n v⟩⟩
 by_cases h9:k=9
 ·subst h9;exact Or.inl ⟨1,_,_,_,_,_,_,rfl,⟨rfl,bM (by kernel_rfl),fun x n v=>vV x n v⟩⟩
 ·refine Or.inr ⟨by simp [bN,h1,h2,h5,h7,h8,h9],?_⟩;have e1:(k == 1)=false:=beq_eq_false_iff_ne.2 h1;have e2:(k == 2)=false:=beq_eq_false_iff_ne.2 h2;have e5:(k == 5)=false:=beq_eq_false_iff_ne.2 h5;have e7:(k == 7)=false:=beq_eq_false_iff_ne.2 h7;have e8:(k == 8)=false:=beq_eq_false_iff_ne.2 h8;have e9:(k == 9)=false:=beq_eq_false_iff_ne.2 h9;simp [Instr.findNow,cI,Instr.sameNow,e1,e2,e5,e7,e8,e9]
theorem kY (w:World) (M:Nat) (es:Array MapEntry) (c i:Nat) (k:Int) (v:Value) (hb:w.heap[M]?=some (.map es c)) (hf:Instr.findNow (.int .i64) (.int .i64 k) es.toList 0=some (some (i,v))) :
  (Instr.lookup 183 (.map (some M)) (.int .i64 k) true).run prog w=.ok (.tuple #[v,.bool true]) w:=by
 unfold Instr.lookup;simp only [Sem.run_bind,Sem.run_pure,run_underlying underlying183,MapKept.run_getObj_map hb,MapKept.run_checkKey underlying2 (d:=.int .i64) (k:=.int .i64 k) (by trivial),MapKept.run_findKey underlying2 hf,Result.andThen];rfl
abbrev mB:Value:=.agg #[.int .i64 0,.nilFunc,.nilFunc,.nilFunc,.nilFunc,.nilFunc]
theorem kZ (w:World) (M:Nat) (es:Array MapEntry) (c:Nat) (k:Int) (hb:w.heap[M]?=some (.map es c)) (hf:Instr.findNow (.int .i64) (.int .i64 k) es.toList 0=some none) :
  (Instr.lookup 183 (.map (some M)) (.int .i64 k) true).run prog w=.ok (.tuple #[mB,.bool false]) w:=by
 unfold Instr.lookup;simp only [Sem.run_bind,Sem.run_pure,run_underlying underlying183,MapKept.run_getObj_map hb,MapKept.run_checkKey underlying2 (d:=.int .i64) (k:=.int .i64 k) (by trivial),MapKept.run_findKey underlying2 hf,Result.andThen,Tryz.zeroValue191];rfl
theorem vW:(prog.info? 191).map (·.size)=some 6:=by kernel_rfl
theorem vX {W:World} {E:Nat} {x0 x1 x2 x3 x4 x5:Value} (h:W.heap[E]?=some (.cells #[x0,x1,x2,x3,x4,x5] 191)):(loadVar 191 ⟨E,0,none⟩).run prog W=.ok (.agg #[x0,x1,x2,x3,x4,x5]) W :=
 run_loadVar_row (P:=prog) _ _ 191 191 #[x0,x1,x2,x3,x4,x5] (0,0) _ h underlying191 rfl vW
theorem pE {W:World} {E:Nat} {x0 x1 x2 x3 x4 x5:Value} (h:W.heap[E]?=some (.cells #[x0,x1,x2,x3,x4,x5] 191)):(loadVar 191 ⟨E,0,none⟩).run prog W.drew=.ok (.agg #[x0,x1,x2,x3,x4,x5]) W.drew :=
 vX (W:=W.drew) h
theorem dP {W:World} {E:Nat} {z0 z1 z2 z3 z4 z5:Value} {T:TypeId} (h:W.heap[E]?=some (.cells #[z0,z1,z2,z3,z4,z5] T)) (x0 x1 x2 x3 x4 x5:Value) :
  ((((((W.setCell ⟨E,0,none⟩ x0).setCell ⟨E,1,none⟩ x1).setCell ⟨E,2,none⟩ x2).setCell ⟨E,3,none⟩ x3).setCell ⟨E,4,none⟩ x4).setCell ⟨E,5,none⟩ x5).heap[E]?=some (.cells #[x0,x1,x2,x3,x4,x5] T) :=
 zH _ _ 5 _ _ x5 (zH _ _ 4 _ _ x4 (zH _ _ 3 _ _ x3 (zH _ _ 2 _ _ x2 (zH _ _ 1 _ _ x1 (zH _ _ 0 _ _ x0 h)))))
theorem cv {n:Nat} {w W:World} {E:Nat} (h:Below n w W) (hE:n≤E) (x0 x1 x2 x3 x4 x5:Value) :
  Below n w ((((((W.setCell ⟨E,0,none⟩ x0).setCell ⟨E,1,none⟩ x1).setCell ⟨E,2,none⟩ x2).setCell ⟨E,3,none⟩ x3).setCell ⟨E,4,none⟩ x4).setCell ⟨E,5,none⟩ x5) :=
 (((((h.setCell (p:=⟨E,0,none⟩) hE _).setCell (p:=⟨E,1,none⟩) hE _).setCell (p:=⟨E,2,none⟩) hE _).setCell (p:=⟨E,3,none⟩) hE _).setCell (p:=⟨E,4,none⟩) hE _).setCell (p:=⟨E,5,none⟩) hE _
theorem tu {w:World} {B:Nat} {x0 x1 x2 x3 x4 x5:Value} {T:TypeId} (h:w.heap[B]?=some (.cells #[x0,x1,x2,x3,x4,x5] T)) :
  w.frozen? ⟨B,0,none⟩=false∧w.frozen? ⟨B,1,none⟩=false∧w.frozen? ⟨B,2,none⟩=false∧w.frozen? ⟨B,3,none⟩=false∧w.frozen? ⟨B,4,none⟩=false∧w.frozen? ⟨B,5,none⟩=false :=
 ⟨aX h _,aX h _,aX h _,aX h _,aX h _,aX h _⟩
theorem gh (M:Nat) (k:Int) (t:ByteArray) (s f f2 f3 f4 f5 j:Nat) (w:World) (hM:w.heap[M]?=some (.map cI 6)) (hf:Instr.findNow (.int .i64) (.int .i64 k) cI.toList 0=some (some (j,aZ s f f2 f3 f4 f5))) :
  Calls prog 142 #[.map (some M),.agg #[.int .i64 k,.string t]] w fun e w'=>e=.returned (.tuple #[aZ s f f2 f3 f4 f5,.bool ((t.size:Int) == (s:Int))])∧Below w.heap.size w w':=by
 have hMl:M<w.heap.size:=(ge.1 hM).1;obtain ⟨hs,q0,q1,hb0⟩:=br w (.cells #[.int .i64 k,.string t] 105) (.cells #[.int .i64 0,.nilFunc,.nilFunc,.nilFunc,.nilFunc,.nilFunc] 191);have hlk:=kY ((w.alloc (.cells #[.int .i64 k,.string t] 105)).alloc (.cells #[.int .i64 0,.nilFunc,.nilFunc,.nilFunc,.nilFunc,.nilFunc] 191)) M cI 6 j k _ ((hb0.block M hMl).trans hM) hf;have HQ:=aa (zA hs (zA q0 (zA q1 hb0)));clear hs q0 q1 hb0 hM hf;go_enter func142,ntmps142
 go_upto_region 2 with fail
 refine ab (fun q=>q.heap[w.heap.size]?=some (.cells #[.int .i64 k,.string t] 105)∧q.heap[w.heap.size+1]?=some (.cells #[.int .i64 0,.nilFunc,.nilFunc,.nilFunc,.nilFunc,.nilFunc] 191)∧q.heap[w.heap.size+1+1]?=some (.cells #[.int .i64 s,cY f,cY f2,cY f3,cY f4,cY f5] 191)∧Below w.heap.size w q) (by
   obtain ⟨hs,q0,q1,hb0⟩:=uh HQ;have hn:=zF ((w.alloc (.cells #[.int .i64 k,.string t] 105)).alloc (.cells #[.int .i64 0,.nilFunc,.nilFunc,.nilFunc,.nilFunc,.nilFunc] 191)) (.cells #[.int .i64 s,cY f,cY f2,cY f3,cY f4,cY f5] 191);rw [hs] at hn;exact ⟨(zG _ _ _ (by omega)).trans q0,(zG _ _ _ (by omega)).trans q1,hn,hb0.alloc hb0.size _⟩) ?_
 rintro q ⟨h0,h1,h2,hb⟩;clear hlk HQ;obtain ⟨c0,c1,_,_⟩:=av h0;obtain ⟨e0,e1,e2,e3,e4,e5⟩:=aJ h1;obtain ⟨g0,g1,g2,g3,g4,g5⟩:=tu h1;obtain ⟨r0,r1,r2,r3,r4,r5⟩:=aJ h2;have HH:=aa (zA h1 hb);clear h0 h1 h2 hb;go_region_held3 (fun z=>z.cell? ⟨w.heap.size,1,none⟩=some (.string t)∧z.cell? ⟨w.heap.size+1+1,0,none⟩=some (.int .i64 s)∧z.cell? ⟨w.heap.size+1+1,1,none⟩=some (cY f)∧z.cell? ⟨w.heap.size+1+1,2,none⟩=some (cY f2)∧z.cell? ⟨w.heap.size+1+1,3,none⟩=some (cY f3)∧z.cell? ⟨w.heap.size+1+1,4,none⟩=some (cY f4)∧z.cell? ⟨w.heap.size+1+1,5,none⟩=some (cY f5)) (go_keep) (fail)
 all_goals
  go_wp2
  refine bodyPost_ret (v:=.tuple #[aZ s f f2 f3 f4 f5,.bool ((t.size:Int) == (s:Int))]) (by simp [results,results142,asAddr,pE (dP (uh HH).1 (.int .i64 s) (cY f) (cY f2) (cY f3) (cY f4) (cY f5))]) rfl ⟨rfl,?_⟩;exact (cv (uh HH).2 (Nat.le_succ _) _ _ _ _ _ _).drew
theorem gW (M:Nat) (k:Int) (t:ByteArray) (w:World) (hM:w.heap[M]?=some (.map cI 6)) (hf:Instr.findNow (.int .i64) (.int .i64 k) cI.toList 0=some none) :
  Calls prog 142 #[.map (some M),.agg #[.int .i64 k,.string t]] w fun e w'=>e=.returned (.tuple #[mB,.bool false])∧Below w.heap.size w w':=by
 have hMl:M<w.heap.size:=(ge.1 hM).1;obtain ⟨hs,q0,q1,hb0⟩:=br w (.cells #[.int .i64 k,.string t] 105) (.cells #[.int .i64 0,.nilFunc,.nilFunc,.nilFunc,.nilFunc,.nilFunc] 191);have hlk:=kZ ((w.alloc (.cells #[.int .i64 k,.string t] 105)).alloc (.cells #[.int .i64 0,.nilFunc,.nilFunc,.nilFunc,.nilFunc,.nilFunc] 191)) M cI 6 k ((hb0.block M hMl).trans hM) hf;have HQ:=aa (zA hs (zA q0 (zA q1 hb0)));clear hs q0 q1 hb0 hM hf;go_enter func142,ntmps142
 go_upto_region 2 with fail
 refine ab (fun q=>q.heap[w.heap.size]?=some (.cells #[.int .i64 k,.string t] 105)∧q.heap[w.heap.size+1]?=some (.cells #[.int .i64 0,.nilFunc,.nilFunc,.nilFunc,.nilFunc,.nilFunc] 191)∧q.heap[w.heap.size+1+1]?=some (.cells #[.int .i64 0,.nilFunc,.nilFunc,.nilFunc,.nilFunc,.nilFunc] 191)∧Below w.heap.size w q) (by
   obtain ⟨hs,q0,q1,hb0⟩:=uh HQ;have hn:=zF ((w.alloc (.cells #[.int .i64 k,.string t] 105)).alloc (.cells #[.int .i64 0,.nilFunc,.nilFunc,.nilFunc,.nilFunc,.nilFunc] 191)) (.cells #[.int .i64 0,.nilFunc,.nilFunc,.nilFunc,.nilFunc,.nilFunc] 191);rw [hs] at hn;exact ⟨(zG _ _ _ (by omega)).trans q0,(zG _ _ _ (by omega)).trans q1,hn,hb0.alloc hb0.size _⟩) ?_
 rintro q ⟨h0,h1,h2,hb⟩;clear hlk HQ;obtain ⟨c0,c1,_,_⟩:=av h0;obtain ⟨e0,e1,e2,e3,e4,e5⟩:=aJ h1;obtain ⟨g0,g1,g2,g3,g4,g5⟩:=tu h1;obtain ⟨r0,r1,r2,r3,r4,r5⟩:=aJ h2;have HH:=aa (zA h1 hb);clear h0 h1 h2 hb;go_region
 all_goals
  go_wp2
  refine bodyPost_ret (v:=.tuple #[mB,.bool false]) (by simp [results,results142,asAddr,pE (dP (uh HH).1 (.int .i64 0) .nilFunc .nilFunc .nilFunc .nilFunc .nilFunc)]) rfl ⟨rfl,?_⟩;exact (cv (uh HH).2 (Nat.le_succ _) _ _ _ _ _ _).drew
structure LnS (w:World) (X M:Nat) (x:Ln) (q:World):Prop where
 r:q.heap[w.heap.size]?=some (.cells #[.int .i64 0,.int .i64 0,.bool false,.bool false,.bool false] 30)
 x:q.heap[X]?=some (.cells (gR x) 30)
 m:q.heap[M]?=some (.map cI 6)
 b:Below w.heap.size w q
theorem LnS.step {w:World} {X M:Nat} {x:Ln} {q q':World} (h:LnS w X M x q) (hb:Below q.heap.size q q'):LnS w X M x q' :=
 ⟨(hb.block _ (ge.1 h.r).1).trans h.r,(hb.block _ (ge.1 h.x).1).trans h.x,(hb.block _ (ge.1 h.m).1).trans h.m,h.b.trans (hb.mono h.b.size)⟩
theorem fq {w:World} {B:Nat} {x0 x1 x2 x3 x4:Value} {T:TypeId} (h:w.heap[B]?=some (.cells #[x0,x1,x2,x3,x4] T)) :
  w.cell? ⟨B,0,none⟩=some x0∧w.cell? ⟨B,1,none⟩=some x1∧w.cell? ⟨B,2,none⟩=some x2∧w.cell? ⟨B,3,none⟩=some x3∧w.cell? ⟨B,4,none⟩=some x4∧w.frozen? ⟨B,0,none⟩=false∧w.frozen? ⟨B,1,none⟩=false∧w.frozen? ⟨B,2,none⟩=false∧w.frozen? ⟨B,3,none⟩=false∧w.frozen? ⟨B,4,none⟩=false :=
 ⟨by rw [cr h];rfl,by rw [cr h];rfl,by rw [cr h];rfl,by rw [cr h];rfl,by rw [cr h];rfl,aX h _,aX h _,aX h _,aX h _,aX h _⟩
theorem vY:(prog.info? 30).map (·.size)=some 5:=by kernel_rfl
theorem ny {W:World} {E:Nat} {x0 x1 x2 x3 x4:Value} (h:W.heap[E]?=some (.cells #[x0,x1,x2,x3,x4] 30)):(loadVar 30 ⟨E,0,none⟩).run prog W=.ok (.agg #[x0,x1,x2,x3,x4]) W :=
 run_loadVar_row (P:=prog) _ _ 30 30 #[x0,x1,x2,x3,x4] (0,0) _ h underlying30 rfl vY
theorem gu {W:World} {E:Nat} {z0 z1 z2 z3 z4:Value} {T:TypeId} (h:W.heap[E]?=some (.cells #[z0,z1,z2,z3,z4] T)) (x0 x1 x2 x3 x4:Value) :
  (((((W.setCell ⟨E,0,none⟩ x0).setCell ⟨E,1,none⟩ x1).setCell ⟨E,2,none⟩ x2).setCell ⟨E,3,none⟩ x3).setCell ⟨E,4,none⟩ x4).heap[E]?=some (.cells #[x0,x1,x2,x3,x4] T) :=
 zH _ _ 4 _ _ x4 (zH _ _ 3 _ _ x3 (zH _ _ 2 _ _ x2 (zH _ _ 1 _ _ x1 (zH _ _ 0 _ _ x0 h))))
theorem dY {n:Nat} {w W:World} {E:Nat} (h:Below n w W) (hE:n≤E) (x0 x1 x2 x3 x4:Value):Below n w (((((W.setCell ⟨E,0,none⟩ x0).setCell ⟨E,1,none⟩ x1).setCell ⟨E,2,none⟩ x2).setCell ⟨E,3,none⟩ x3).setCell ⟨E,4,none⟩ x4) :=
 ((((h.setCell (p:=⟨E,0,none⟩) hE _).setCell (p:=⟨E,1,none⟩) hE _).setCell (p:=⟨E,2,none⟩) hE _).setCell (p:=⟨E,3,none⟩) hE _).setCell (p:=⟨E,4,none⟩) hE _
theorem gi {W:World} {E g:Nat} (hg:g≠E) (x0 x1 x2 x3 x4:Value):(((((W.setCell ⟨E,0,none⟩ x0).setCell ⟨E,1,none⟩ x1).setCell ⟨E,2,none⟩ x2).setCell ⟨E,3,none⟩ x3).setCell ⟨E,4,none⟩ x4).heap[g]?=W.heap[g]?:=by
 rw [Below.heap_setCell _ _ _ _ hg,Below.heap_setCell _ _ _ _ hg,Below.heap_setCell _ _ _ _ hg,Below.heap_setCell _ _ _ _ hg,Below.heap_setCell _ _ _ _ hg]
theorem jP {W:World} {E:Nat} (p:Addr) (hp:p.block≠E) (x0 x1 x2 x3 x4:Value):(((((W.setCell ⟨E,0,none⟩ x0).setCell ⟨E,1,none⟩ x1).setCell ⟨E,2,none⟩ x2).setCell ⟨E,3,none⟩ x3).setCell ⟨E,4,none⟩ x4).cell? p=W.cell? p:=by
 unfold World.cell?;rw [gi hp]
theorem LnS.put {w:World} {X M:Nat} {x:Ln} {q:World} (h:LnS w X M x q) (h1:w.heap.size<X) (h2:M<X) (y:Ln) :
  LnS w X M y (((((q.setCell ⟨X,0,none⟩ (.int .i64 y.m)).setCell ⟨X,1,none⟩ (.int .i64 y.a)).setCell ⟨X,2,none⟩ (.bool y.p)).setCell ⟨X,3,none⟩ (.bool y.c)).setCell ⟨X,4,none⟩ (.bool y.d)) :=
 ⟨(gi (by omega) _ _ _ _ _).trans h.r,gu h.x _ _ _ _ _,(gi (by omega) _ _ _ _ _).trans h.m,dY h.b (by omega) _ _ _ _ _⟩
theorem HoldsO.at {w:World} {v:Value} {F:List Op.Opt} (h:HoldsO w v F) (i:Nat) (hi:i<F.length):∃ g,(∃ cp,v=.slice (some ⟨g,0,none⟩) F.length cp)∧g<w.heap.size∧w.cell? ⟨g,i*2,none⟩=some (.int .i64 F[i].kind)∧w.cell? ⟨g,i*2+1,none⟩=some (.string F[i].data):=by
 rcases h with ⟨_,_,_,e⟩ | ⟨g,cp,cur,e,q1,q2,q3⟩
 ·rw [e] at hi;exact absurd hi (Nat.not_lt_zero _)
 ·have hg:=bW F i _ (List.getElem?_eq_getElem hi);exact ⟨g,⟨cp,e⟩,(ge.1 q1).1,by rw [cr q1,q3 _ (by omega)];exact hg.1,by rw [cr q1,q3 _ (by omega)];exact hg.2⟩
theorem gv (v:Value) (F:List Op.Opt) (w:World) (hm:F.length≤maxLen) (h:HoldsO w v F) :
  Calls prog 132 #[v] w fun e w'=>e=.returned (.agg (gR (bc F)))∧Below w.heap.size w w':=by
 have C1:=aa fun W (hb:Below w.heap.size w W)=>cq v F W hm (h.below hb rfl)
 unfold bc;cases hr:Op.right F
 ·rw [if_neg (by decide)];rw [hr] at C1;obtain ⟨ad,cp,rfl⟩:=h.form;have hb0:Below w.heap.size w (w.alloc (.cells #[.int .i64 0,.int .i64 0,.bool false,.bool false,.bool false] 30)):=(zC _ _).alloc (zD _) _;have hr0:=zF w (.cells #[.int .i64 0,.int .i64 0,.bool false,.bool false,.bool false] 30);have H0:=aa (zA hr0 hb0);clear hr0 hb0 h;go_enter func132,ntmps132
  go_wp2_with fail
  refine (uh C1 _ (uh H0).2).mono ?_;rintro e w1 ⟨rfl,hb1⟩;have hr1:=(hb1.block w.heap.size (by simp)).trans (uh H0).1;have hB1:=(uh H0).2.trans (hb1.mono (uh H0).2.size);obtain ⟨r0,r1,r2,r3,r4,f0,f1,f2,f3,f4⟩:=fq hr1;have H1:=aa (zA hr1 hB1);clear hr1 hB1 hb1 H0 C1;go_wp2
  refine bodyPost_ret (v:=.agg #[.int .i64 0,.int .i64 0,.bool false,.bool false,.bool false]) (by simp [results,results132,asAddr,ny (gu (uh H1).1 (.int .i64 0) (.int .i64 0) (.bool false) (.bool false) (.bool false))]) rfl ⟨rfl,dY (uh H1).2 (zD _) _ _ _ _ _⟩
 ·rw [if_pos rfl];rw [hr] at C1;have hFl:=Op.right_len hr;have HFO:=aa (Op.right_all hr);have HAT:=aa fun i hi=>h.at i hi
  obtain ⟨ad,cp,rfl⟩:=h.form;obtain ⟨n,hn⟩:∃ n,F.length=n:=⟨_,rfl⟩;have hb0:Below w.heap.size w (w.alloc (.cells #[.int .i64 0,.int .i64 0,.bool false,.bool false,.bool false] 30)):=(zC _ _).alloc (zD _) _;have hr0:=zF w (.cells #[.int .i64 0,.int .i64 0,.bool false,.bool false,.bool false] 30);have H0:=aa (zA hr0 hb0);clear hr0 hb0 h hr;have HTL:Hid (F.take n=F):=aa (List.take_of_length_le (by omega));obtain ⟨R,hR⟩:∃ R,ep F=R:=⟨_,rfl⟩;rw [hR];have HR:=aa hR;clear hR;rw [hn] at C1 ⊢;go_enter func132,ntmps132
  go_wp2_with fail
  refine (uh C1 _ (uh H0).2).mono ?_;rintro e w1 ⟨rfl,hb1⟩;have hr1:=(hb1.block w.heap.size (by simp)).trans (uh H0).1;have hB1:=(uh H0).2.trans (hb1.mono (uh H0).2.size);have H1:=aa (zA hr1 hB1);clear hr1 hB1 hb1 H0 C1;go_wp2_with fail
  refine (dF _).mono ?_;rintro e w2 ⟨rfl,hm2,hb2⟩;have hI:LnS w w2.heap.size w1.heap.size (ep (F.take 0)) (w2.alloc (.cells #[.int .i64 300,.int .i64 4294967295,.bool false,.bool false,.bool false] 30)):=by
   have hl1:=(ge.1 (uh H1).1).1;have hl2:=(ge.1 hm2).1;have hr2:=(hb2.block w.heap.size hl1).trans (uh H1).1;have hB2:=(uh H1).2.trans (hb2.mono (uh H1).2.size);have hs2:=hb2.size;exact ⟨(zG _ _ _ (by omega)).trans hr2,zF w2 _,(zG _ _ _ hl2).trans hm2,hB2.alloc hB2.size _⟩
  have hX:w.heap.size<w2.heap.size∧w1.heap.size<w2.heap.size:=⟨Nat.lt_of_lt_of_le (ge.1 (uh H1).1).1 hb2.size,(ge.1 hm2).1⟩;have HI:=aa hI;clear hI hm2 hb2 H1;obtain ⟨hX1,hX2⟩:=hX;go_wp2_with fail
  generalize w1.heap.size=M at *;generalize w2.heap.size=X at *;go_loopw [17] (fun y wr=>∃ i:Nat,i≤n∧y=.int .i64 i∧LnS w X M (ep (F.take i)) wr) (fun y _=>n - (intOf y).toNat)
  case atStart=>exact ⟨0,Nat.zero_le _,rfl,uh HI⟩
  case round =>
   obtain ⟨i,hi,rfl,hS⟩:=hrel;clear HI;by_cases hlt:i<n
   ·have d1:(i:Int)<(n:Int):=by omega
    have d0:(0:Int)≤(i:Int):=by omega
    obtain ⟨g,⟨cp2,e2⟩,hgl,k0,k1⟩:=uh HAT i (by omega);cases e2;replace k0:=(hS.b.cell (p:=⟨g,i*2,none⟩) hgl).trans k0;replace k1:=(hS.b.cell (p:=⟨g,i*2+1,none⟩) hgl).trans k1;have HSN:=aa (i_ F i (by omega));have hok:=uh HFO _ (List.getElem_mem (show i<F.length by omega));generalize F[i]'(by omega)=o at *;obtain ⟨kd,dt⟩:=o;dsimp only at k0 k1;generalize ep (F.take i)=x at *;have hds:dt.size≤20:=by unfold Op.ok at hok;have:=of_decide_eq_true hok;exact this.2.2
    have HS:=aa hS;clear hS HAT HFO hok;go_upto_region 8 with fail
    refine ab (fun q=>LnS w X M x q∧q.heap[wr.heap.size]?=some (.cells #[.int .i64 kd,.string dt] 105))
     ⟨(uh HS).step ((zC _ _).alloc (zD _) _),zF wr _⟩ ?_
    rintro q1 ⟨hS1,hO1⟩;have hN1:X<wr.heap.size:=(ge.1 (uh HS).x).1;generalize wr.heap.size=N1 at *;have hl1:N1<q1.heap.size:=(ge.1 hO1).1;obtain ⟨c0,c1,_,_⟩:=av hO1;have HV1:=aa (zA hS1 hO1);clear hO1 HS k0 k1;unfold nw at HSN;dsimp only at HSN;rcases ur kd with ⟨s,f,f2,f3,f4,f5,j,hs,hJ⟩ | ⟨hs,hf⟩
    ·have CR:=aa (gh M kd dt s f f2 f3 f4 f5 j q1 hS1.m hJ.fd);have hcf:=hJ.cf;have HJL:=aa hJ.ln;have h4:=i8 hs;clear hS1 hJ;go_wp2_with fail
     refine (uh CR).mono ?_;rintro e w3 ⟨rfl,hb3⟩;have HV3:=aa (zA ((uh HV1).1.step hb3) ((hb3.block N1 hl1).trans (uh HV1).2));have hl3:N1<w3.heap.size:=Nat.lt_of_lt_of_le hl1 hb3.size;clear hb3 HV1 hl1 c0 c1 CR;cases hq:((dt.size:Int) == (s:Int))
     ·have hne:¬ (bN kd=some dt.size):=fun e=>by
       rw [hs] at e;cases e;rw [beq_self_eq_true] at hq;cases hq
      rw [if_neg hne] at HSN;go_wp2_with fail
      go_roundw
      case rel=>exact ⟨i+1,by omega,by go_num,by rw [uh HSN];exact (uh HV3).1.step ((zC _ _).alloc (zD _) _)⟩
      case measure=>simp [intOf];omega
     ·have hes:dt.size=s:=by have:=eq_of_beq hq;omega
      rw [if_pos (by rw [hs,hes])] at HSN;have CN:=aa fun v=>i7 kd dt v (by omega)
      have hnx:=eM dt.data.toList (by rw [bC];omega);have HJ2:=aa fun v=>uh HJL x (ax dt.data.toList) v
      generalize ax dt.data.toList=nx at *;clear HJL;go_upto_region 10 with fail
      refine ab (fun q=>LnS w X M x q∧q.heap[N1]?=some (.cells #[.int .i64 kd,.string dt] 105)∧q.heap[w3.heap.size]?=some (.cells #[.int .i64 s,cY f,cY f2,cY f3,cY f4,cY f5] 191))
       ⟨(uh HV3).1.step ((zC _ _).alloc (zD _) _),(zG _ _ _ hl3).trans (uh HV3).2,zF w3 _⟩ ?_
      rintro q4 ⟨hS4,hO4,hR4⟩;have hN2:X<w3.heap.size:=by omega
      generalize w3.heap.size=N2 at *;obtain ⟨c0,c1,_,_⟩:=av hO4;obtain ⟨_,_,_,_,_,r5⟩:=aJ hR4;have HV4:=aa (zA hS4 (zA hO4 hR4));clear hS4 hO4 hR4 HV3;refine wp_region_held_drew (S:=fun z=>z.cell? ⟨N1,0,none⟩=some (.int .i64 kd)∧z.cell? ⟨N1,1,none⟩=some (.string dt)∧z.cell? ⟨N2,5,none⟩=some (cY f5)) (by kernel_rfl) ?_ (fun hHeld=>?_)
      ·exact ⟨c0,c1,r5⟩
      refine tt 0 1 ?_;refine t2 3 ?_;refine wpAnyH_ready (rs:=[2,4]) (by kernel_rfl) (by simp) ?_;have hn1:N1<q4.heap.size:=(ge.1 (uh HV4).2.1).1;have hn2:N2<q4.heap.size:=(ge.1 (uh HV4).2.2).1;refine AllReadyH.cons rfl (fun K hK=>?_) (AllReadyH.cons rfl (fun K hK=>?_) AllReadyH.nil)
      ·obtain ⟨m0,m1,m2,m3,m4,_,_,_,_,_⟩:=fq (uh HV4).1.x;go_simp;refine hK.out _ _ ?_ (fun hHeld2=>?_)
       ·exact ⟨c0,c1,r5⟩
       clear hK K m0 m1 m2 m3 m4;try simp only [Act.put,sA,sZ,sS,gA,gZ,gS]
       refine r3 4 fun K hK=>?_
       go_simp;refine (uh CN _).mono ?_;rintro e w5 ⟨rfl,hb5⟩;have B5:Below q4.heap.size q4 w5:=(zC _ _).drew.trans hb5;go_wp2_with fail
       refine hK.out _ _ ?_ (fun hHeld3=>?_)
       ·exact ⟨(B5.cell (p:=⟨N1,0,none⟩) hn1).trans c0,(B5.cell (p:=⟨N1,1,none⟩) hn1).trans c1,(B5.cell (p:=⟨N2,5,none⟩) hn2).trans r5⟩
       clear hK K;try simp only [Act.put,sA,sZ,sS,gA,gZ,gS]
       refine r3 5 fun K hK=>?_
       go_simp;refine (uh HJ2 _).mono ?_;rintro e w6 ⟨rfl,hb6⟩;have B6:Below q4.heap.size q4 w6:=B5.trans (hb6.mono B5.size);have h6:=(uh HV4).1.step B6;go_wp2_with fail
       refine hK.out _ _ ?_ (fun hHeld4=>?_)
       ·exact ⟨(B6.cell (p:=⟨N1,0,none⟩) hn1).trans c0,(B6.cell (p:=⟨N1,1,none⟩) hn1).trans c1,(B6.cell (p:=⟨N2,5,none⟩) hn2).trans r5⟩
       clear hK K;try simp only [Act.put,sA,sZ,sS,gA,gZ,gS]
       refine r3 6 fun K hK=>?_
       obtain ⟨m0,m1,m2,m3,m4,f0,f1',f2',f3',f4'⟩:=fq h6.x;have HL:=aa (h6.put hX1 hX2 (gT kd x nx));have n1X:N1≠X:=by omega
       have n2X:N2≠X:=by omega
       go_simp;refine hK.out _ _ ?_ (fun hHeld5=>?_)
       ·have T:=fun p (hp:p.block≠X)=>jP (W:=w6) (E:=X) p hp (.int .i64 (gT kd x nx).m) (.int .i64 (gT kd x nx).a) (.bool (gT kd x nx).p) (.bool (gT kd x nx).c) (.bool (gT kd x nx).d)
        exact ⟨(T ⟨N1,0,none⟩ n1X).trans ((B6.cell (p:=⟨N1,0,none⟩) hn1).trans c0),(T ⟨N1,1,none⟩ n1X).trans ((B6.cell (p:=⟨N1,1,none⟩) hn1).trans c1),(T ⟨N2,5,none⟩ n2X).trans ((B6.cell (p:=⟨N2,5,none⟩) hn2).trans r5)⟩
       clear hK K;try simp only [Act.put,sA,sZ,sS,gA,gZ,gS]
       refine dn ?_ _;go_wp2_with fail
       go_roundw
       case rel=>exact ⟨i+1,by omega,by go_num,by rw [uh HSN];exact uh HL⟩
       case measure=>simp [intOf];omega
      ·go_simp;refine (uh CN _).mono ?_;rintro e w5 ⟨rfl,hb5⟩;have B5:Below q4.heap.size q4 w5:=(zC _ _).drew.trans hb5;go_wp2_with fail
       refine hK.out _ _ ?_ (fun hHeld2=>?_)
       ·exact ⟨(B5.cell (p:=⟨N1,0,none⟩) hn1).trans c0,(B5.cell (p:=⟨N1,1,none⟩) hn1).trans c1,(B5.cell (p:=⟨N2,5,none⟩) hn2).trans r5⟩
       clear hK K;try simp only [Act.put,sA,sZ,sS,gA,gZ,gS]
       refine r3 2 fun K hK=>?_
       obtain ⟨m0,m1,m2,m3,m4,_,_,_,_,_⟩:=fq ((uh HV4).1.step B5).x;go_simp;refine hK.out _ _ ?_ (fun hHeld3=>?_)
       ·exact ⟨(B5.cell (p:=⟨N1,0,none⟩) hn1).trans c0,(B5.cell (p:=⟨N1,1,none⟩) hn1).trans c1,(B5.cell (p:=⟨N2,5,none⟩) hn2).trans r5⟩
       clear hK K m0 m1 m2 m3 m4;try simp only [Act.put,sA,sZ,sS,gA,gZ,gS]
       refine r3 5 fun K hK=>?_
       go_simp;refine (uh HJ2 _).mono ?_;rintro e w6 ⟨rfl,hb6⟩;have B6:Below q4.heap.size q4 w6:=B5.trans (hb6.mono B5.size);have h6:=(uh HV4).1.step B6;go_wp2_with fail
       refine hK.out _ _ ?_ (fun hHeld4=>?_)
       ·exact ⟨(B6.cell (p:=⟨N1,0,none⟩) hn1).trans c0,(B6.cell (p:=⟨N1,1,none⟩) hn1).trans c1,(B6.cell (p:=⟨N2,5,none⟩) hn2).trans r5⟩
       clear hK K;try simp only [Act.put,sA,sZ,sS,gA,gZ,gS]
       refine r3 6 fun K hK=>?_
       obtain ⟨m0,m1,m2,m3,m4,f0,f1',f2',f3',f4'⟩:=fq h6.x;have HL:=aa (h6.put hX1 hX2 (gT kd x nx));have n1X:N1≠X:=by omega
       have n2X:N2≠X:=by omega
       go_simp;refine hK.out _ _ ?_ (fun hHeld5=>?_)
       ·have T:=fun p (hp:p.block≠X)=>jP (W:=w6) (E:=X) p hp (.int .i64 (gT kd x nx).m) (.int .i64 (gT kd x nx).a) (.bool (gT kd x nx).p) (.bool (gT kd x nx).c) (.bool (gT kd x nx).d)
        exact ⟨(T ⟨N1,0,none⟩ n1X).trans ((B6.cell (p:=⟨N1,0,none⟩) hn1).trans c0),(T ⟨N1,1,none⟩ n1X).trans ((B6.cell (p:=⟨N1,1,none⟩) hn1).trans c1),(T ⟨N2,5,none⟩ n2X).trans ((B6.cell (p:=⟨N2,5,none⟩) hn2).trans r5)⟩
       clear hK K;try simp only [Act.put,sA,sZ,sS,gA,gZ,gS]
       refine dn ?_ _;go_wp2_with fail
       go_roundw
       case rel=>exact ⟨i+1,by omega,by go_num,by rw [uh HSN];exact uh HL⟩
       case measure=>simp [intOf];omega
    ·have CR:=aa (gW M kd dt q1 hS1.m hf);rw [if_neg (by rw [hs];intro e;cases e)] at HSN;clear hS1 hf;go_wp2_with fail
     refine (uh CR).mono ?_;rintro e w3 ⟨rfl,hb3⟩;have HV3:=aa ((uh HV1).1.step hb3);clear hb3 HV1 hl1 c0 c1 CR;go_wp2_with fail
     go_roundw
     case rel=>exact ⟨i+1,by omega,by go_num,by rw [uh HSN];exact (uh HV3).step ((zC _ _).alloc (zD _) _)⟩
     case measure=>simp [intOf];omega
   ·have e:i=n:=by omega
    subst e;have d1:¬ ((i:Int)<(i:Int)):=by omega
    rw [uh HTL,uh HR] at hS;obtain ⟨m0,m1,m2,m3,m4,_,_,_,_,_⟩:=fq hS.x;obtain ⟨r0,r1,r2,r3,r4,f0,f1,f2,f3,f4⟩:=fq hS.r;have HS:=aa hS;clear hS HAT HFO HTL HR;go_wp2
    exact bodyPost_ret (v:=.agg (gR R)) (by simp [results,results132,asAddr,ny (gu (uh HS).r (.int .i64 R.m) (.int .i64 R.a) (.bool R.p) (.bool R.c) (.bool R.d))]) rfl ⟨rfl,dY (uh HS).b (zD _) _ _ _ _ _⟩
end Go.Proofs.YtjdgiimfpkideaaGreatDoor
