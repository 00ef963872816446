/- VerdC RuleOf LnI Src -/
import Derived.Test.YtjdgiimfpkideaaGreatDoorS00
set_option maxHeartbeats 4000000
set_option maxRecDepth 100000
namespace Go.Proofs.YtjdgiimfpkideaaGreatDoor
open Go.RowKit Go.Proofs.Tryz
variable {w W q a w':World} {B E n X M:Nat} {x0 x1 z0 z1 x2 x3 x4 x5 z2 z3 z4 sl:Value} {T:TypeId} {x:Ln}
theorem av(h:w.heap[B]?=some (.cells #[x0,x1] T)):w.cell? (B,0)=some x0/\w.cell? (B,1)=some x1/\w.frozen? (B,0)=false/\w.frozen? (B,1)=false :=
 ⟨cv h,cv h,aX h _,aX h _⟩
theorem br(w:World)(a b:Obj):((w.alloc a).alloc b).heap.size=w.heap.size+1+1/\((w.alloc a).alloc b).heap[w.heap.size]?=some a/\((w.alloc a).alloc b).heap[w.heap.size+1]?=some b/\Below w w ((w.alloc a).alloc b):=by
 have s1:(w.alloc a).heap.size=w.heap.size+1:=by simp
 have e2:=zF (w.alloc a) b;rw[s1]at e2;refine⟨by simp,?_,e2,((zC _ _).alloc (zD _) _).alloc (by omega) _⟩;rw[zG _ _ _ (by omega)];exact zF w a
theorem uu:(prog.info? 105).map (·.size)=some 2:=by kernel_rfl
theorem jO(h:W.heap[E]?=some (.cells #[x0,x1] 105)):(loadVar 105 (E,0)).run prog W=.ok (.agg #[x0,x1]) W :=
 run_loadVar_row (P:=prog) _ _ 105 105 #[x0,x1] (0,0) _ h underlying105 rfl uu
theorem aM(h:W.heap[E]?=some (.cells #[z0,z1] T))(x0 x1:Value):((W.setCell (E,0) x0).setCell (E,1) x1).heap[E]?=some (.cells #[x0,x1] T) :=
 zH _ _ 1 _ _ x1 (zH _ _ 0 _ _ x0 h)
theorem kY(w:World)(M:Nat)(es:Array MapEntry)(c i:Nat)(k:Int)(v:Value)(hb:w.heap[M]?=some (.map es c))(hf:Instr.findNow (.int .i64) k es.toList 0=some (some (i,v))):(Instr.lookup 183 (.map (some M)) k true).run prog w=.ok (.tuple #[v,true]) w:=by
 unfold Instr.lookup;simp only[Sem.run_bind,Sem.run_pure,run_underlying underlying183,MapKept.run_getObj_map hb,MapKept.run_checkKey underlying2 (d:=.int .i64) (k:=.int .i64 k) (by trivial),MapKept.run_findKey underlying2 hf,Result.andThen];rfl
abbrev mB:Value:=.agg #[(0:Int),.nilFunc,.nilFunc,.nilFunc,.nilFunc,.nilFunc]
theorem kZ(w:World)(M:Nat)(es:Array MapEntry)(c:Nat)(k:Int)(hb:w.heap[M]?=some (.map es c))(hf:Instr.findNow (.int .i64) k es.toList 0=some none):(Instr.lookup 183 (.map (some M)) k true).run prog w=.ok (.tuple #[mB,false]) w:=by
 unfold Instr.lookup;simp only[Sem.run_bind,Sem.run_pure,run_underlying underlying183,MapKept.run_getObj_map hb,MapKept.run_checkKey underlying2 (d:=.int .i64) (k:=.int .i64 k) (by trivial),MapKept.run_findKey underlying2 hf,Result.andThen,Tryz.zeroValue191];rfl
theorem vW:(prog.info? 191).map (·.size)=some 6:=by kernel_rfl
theorem vX(h:W.heap[E]?=some (.cells #[x0,x1,x2,x3,x4,x5] 191)):(loadVar 191 (E,0)).run prog W=.ok (.agg #[x0,x1,x2,x3,x4,x5]) W :=
 run_loadVar_row (P:=prog) _ _ 191 191 #[x0,x1,x2,x3,x4,x5] (0,0) _ h underlying191 rfl vW
theorem pE(h:W.heap[E]?=some (.cells #[x0,x1,x2,x3,x4,x5] 191)):(loadVar 191 (E,0)).run prog W.drew=.ok (.agg #[x0,x1,x2,x3,x4,x5]) W.drew :=
 vX (W:=W.drew) h
theorem dP{z5:Value}(h:W.heap[E]?=some (.cells #[z0,z1,z2,z3,z4,z5] T))(x0 x1 x2 x3 x4 x5:Value):((((((W.setCell ⟨E,0,none⟩ x0).setCell ⟨E,1,none⟩ x1).setCell ⟨E,2,none⟩ x2).setCell ⟨E,3,none⟩ x3).setCell ⟨E,4,none⟩ x4).setCell ⟨E,5,none⟩ x5).heap[E]?=some (.cells #[x0,x1,x2,x3,x4,x5] T) :=
 zH _ _ 5 _ _ x5 (zH _ _ 4 _ _ x4 (zH _ _ 3 _ _ x3 (zH _ _ 2 _ _ x2 (zH _ _ 1 _ _ x1 (zH _ _ 0 _ _ x0 h)))))
theorem nz(h:Below n w W)(hE:n<=E)(x0 x1 x2 x3 x4 x5:Value):Below n w ((((((W.setCell ⟨E,0,none⟩ x0).setCell ⟨E,1,none⟩ x1).setCell ⟨E,2,none⟩ x2).setCell ⟨E,3,none⟩ x3).setCell ⟨E,4,none⟩ x4).setCell ⟨E,5,none⟩ x5) :=
 (((((h.setCell (p:=⟨E,0,none⟩) hE _).setCell (p:=⟨E,1,none⟩) hE _).setCell (p:=⟨E,2,none⟩) hE _).setCell (p:=⟨E,3,none⟩) hE _).setCell (p:=⟨E,4,none⟩) hE _).setCell (p:=⟨E,5,none⟩) hE _
theorem tu(h:w.heap[B]?=some (.cells #[x0,x1,x2,x3,x4,x5] T)):w.frozen? ⟨B,0,none⟩=false/\w.frozen? ⟨B,1,none⟩=false/\w.frozen? ⟨B,2,none⟩=false/\w.frozen? ⟨B,3,none⟩=false/\w.frozen? ⟨B,4,none⟩=false/\w.frozen? ⟨B,5,none⟩=false :=
 ⟨aX h _,aX h _,aX h _,aX h _,aX h _,aX h _⟩
theorem gh(M:Nat)(k:Int)(t:ByteArray)(s f f2 f3 f4 f5 j:Nat)(w:World)(hM:w.heap[M]?=some (.map cI 6))(hf:Instr.findNow (.int .i64) (.int .i64 k) cI.toList 0=some (some (j,aZ s f f2 f3 f4 f5))):Calls prog 142 #[.map (some M),.agg #[.int .i64 k,.string t]] w fun e w'=>e=.returned (.tuple #[aZ s f f2 f3 f4 f5,.bool ((t.size:Int)==(s:Int))])/\Below w.heap.size w w':=by
 have hMl:M<w.heap.size:=(ge.1 hM).1;obtain⟨hs,q0,q1,hb0⟩:=br w (.cells #[.int .i64 k,.string t] 105) (.cells #[.int .i64 0,.nilFunc,.nilFunc,.nilFunc,.nilFunc,.nilFunc] 191);have hlk:=kY ((w.alloc (.cells #[k,t] 105)).alloc (.cells #[(0:Int),.nilFunc,.nilFunc,.nilFunc,.nilFunc,.nilFunc] 191)) M cI 6 j k _ ((hb0.block M hMl).trans hM) hf;have HQ:=aa (zA hs (zA q0 (zA q1 hb0)));clear hs q0 q1 hb0 hM hf;go_enter func142,ntmps142
 go_upto_region 2 with fail
 refine bb (fun q=>q.heap[w.heap.size]?=some (.cells #[k,t] 105)/\q.heap[w.heap.size+1]?=some (.cells #[(0:Int),.nilFunc,.nilFunc,.nilFunc,.nilFunc,.nilFunc] 191)/\q.heap[w.heap.size+1+1]?=some (.cells #[s,cY f,cY f2,cY f3,cY f4,cY f5] 191)/\Below w w q) (by
   obtain⟨hs,q0,q1,hb0⟩:=uh HQ;have hn:=zF ((w.alloc (.cells #[k,t] 105)).alloc (.cells #[(0:Int),.nilFunc,.nilFunc,.nilFunc,.nilFunc,.nilFunc] 191)) (.cells #[s,cY f,cY f2,cY f3,cY f4,cY f5] 191);rw[hs]at hn;exact⟨(zG _ _ _ (by omega)).trans q0,(zG _ _ _ (by omega)).trans q1,hn,hb0.alloc hb0.size _⟩) ?_
 rintro q⟨h0,h1,h2,hb⟩;clear hlk HQ;obtain⟨c0,c1,_,_⟩:=av h0;obtain⟨e0,e1,e2,e3,e4,e5⟩:=aJ h1;obtain⟨g0,g1,g2,g3,g4,g5⟩:=tu h1;obtain⟨r0,r1,r2,r3,r4,r5⟩:=aJ h2;have HH:=aa (zA h1 hb);clear h0 h1 h2 hb;go_region_held3 (fun z=>z.cell? (w,1)=some (.string t)/\z.cell? ⟨w.heap.size+1+1,0,none⟩=some (.int .i64 s)/\z.cell? ⟨w.heap.size+1+1,1,none⟩=some (cY f)/\z.cell? ⟨w.heap.size+1+1,2,none⟩=some (cY f2)/\z.cell? ⟨w.heap.size+1+1,3,none⟩=some (cY f3)/\z.cell? ⟨w.heap.size+1+1,4,none⟩=some (cY f4)/\z.cell? ⟨w.heap.size+1+1,5,none⟩=some (cY f5)) (go_keep) (fail)
 all_goals
  go_wp2
  refine bodyPost_ret (v:=.tuple #[aZ s f f2 f3 f4 f5,.bool ((t.size:Int)==(s:Int))]) (by simp[results,results142,asAddr,pE (dP HH.out.1 (.int .i64 s) (cY f) (cY f2) (cY f3) (cY f4) (cY f5))]) rfl ⟨rfl,?_⟩;exact(nz HH.out.2 (Nat.le_succ _) _ _ _ _ _ _).drew
theorem gW(M:Nat)(k:Int)(t:ByteArray)(w:World)(hM:w.heap[M]?=some (.map cI 6))(hf:Instr.findNow (.int .i64) (.int .i64 k) cI.toList 0=some none):Calls prog 142 #[.map (some M),.agg #[.int .i64 k,.string t]] w fun e w'=>e=.returned (.tuple #[mB,.bool false])/\Below w.heap.size w w':=by
 have hMl:M<w.heap.size:=(ge.1 hM).1;obtain⟨hs,q0,q1,hb0⟩:=br w (.cells #[.int .i64 k,.string t] 105) (.cells #[.int .i64 0,.nilFunc,.nilFunc,.nilFunc,.nilFunc,.nilFunc] 191);have hlk:=kZ ((w.alloc (.cells #[k,t] 105)).alloc (.cells #[(0:Int),.nilFunc,.nilFunc,.nilFunc,.nilFunc,.nilFunc] 191)) M cI 6 k ((hb0.block M hMl).trans hM) hf;have HQ:=aa (zA hs (zA q0 (zA q1 hb0)));clear hs q0 q1 hb0 hM hf;go_enter func142,ntmps142
 go_upto_region 2 with fail
 refine bb (fun q=>q.heap[w.heap.size]?=some (.cells #[k,t] 105)/\q.heap[w.heap.size+1]?=some (.cells #[(0:Int),.nilFunc,.nilFunc,.nilFunc,.nilFunc,.nilFunc] 191)/\q.heap[w.heap.size+1+1]?=some (.cells #[(0:Int),.nilFunc,.nilFunc,.nilFunc,.nilFunc,.nilFunc] 191)/\Below w w q) (by
   obtain⟨hs,q0,q1,hb0⟩:=uh HQ;have hn:=zF ((w.alloc (.cells #[k,t] 105)).alloc (.cells #[(0:Int),.nilFunc,.nilFunc,.nilFunc,.nilFunc,.nilFunc] 191)) (.cells #[(0:Int),.nilFunc,.nilFunc,.nilFunc,.nilFunc,.nilFunc] 191);rw[hs]at hn;exact⟨(zG _ _ _ (by omega)).trans q0,(zG _ _ _ (by omega)).trans q1,hn,hb0.alloc hb0.size _⟩) ?_
 rintro q⟨h0,h1,h2,hb⟩;clear hlk HQ;obtain⟨c0,c1,_,_⟩:=av h0;obtain⟨e0,e1,e2,e3,e4,e5⟩:=aJ h1;obtain⟨g0,g1,g2,g3,g4,g5⟩:=tu h1;obtain⟨r0,r1,r2,r3,r4,r5⟩:=aJ h2;have HH:=aa (zA h1 hb);clear h0 h1 h2 hb;go_region
 all_goals
  go_wp2
  refine bodyPost_ret (v:=.tuple #[mB,false]) (by simp[results,results142,asAddr,pE (dP HH.out.1 (0:Int) .nilFunc .nilFunc .nilFunc .nilFunc .nilFunc)]) rfl ⟨rfl,?_⟩;exact(nz HH.out.2 (Nat.le_succ _) _ _ _ _ _ _).drew
structure LnS(w:World)(X M:Nat)(x:Ln)(q:World):Prop where
 r:q.heap[w.heap.size]?=some (.cells #[(0:Int),(0:Int),false,false,false] 30)
 x:q.heap[X]?=some (.cells (gR x) 30)
 m:q.heap[M]?=some (.map cI 6)
 b:Below w w q
theorem LnS.step{q':World}(h:LnS w X M x q)(hb:Below q q q'):LnS w X M x q' :=
 ⟨(hb.block _ (ge.1 h.r).1).trans h.r,(hb.block _ (ge.1 h.x).1).trans h.x,(hb.block _ (ge.1 h.m).1).trans h.m,h.b.trans (hb.mono h.b.size)⟩
theorem fq(h:w.heap[B]?=some (.cells #[x0,x1,x2,x3,x4] T)):w.cell? (B,0)=some x0/\w.cell? (B,1)=some x1/\w.cell? (B,2)=some x2/\w.cell? (B,3)=some x3/\w.cell? (B,4)=some x4/\w.frozen? (B,0)=false/\w.frozen? (B,1)=false/\w.frozen? (B,2)=false/\w.frozen? (B,3)=false/\w.frozen? (B,4)=false :=
 ⟨cv h,cv h,cv h,cv h,cv h,aX h _,aX h _,aX h _,aX h _,aX h _⟩
theorem vY:(prog.info? 30).map (·.size)=some 5:=by kernel_rfl
theorem Cn(h:W.heap[E]?=some (.cells #[x0,x1,x2,x3,x4] 30)):(loadVar 30 (E,0)).run prog W=.ok (.agg #[x0,x1,x2,x3,x4]) W :=
 run_loadVar_row (P:=prog) _ _ 30 30 #[x0,x1,x2,x3,x4] (0,0) _ h underlying30 rfl vY
theorem gu(h:W.heap[E]?=some (.cells #[z0,z1,z2,z3,z4] T))(x0 x1 x2 x3 x4:Value):(((((W.setCell ⟨E,0,none⟩ x0).setCell ⟨E,1,none⟩ x1).setCell ⟨E,2,none⟩ x2).setCell ⟨E,3,none⟩ x3).setCell ⟨E,4,none⟩ x4).heap[E]?=some (.cells #[x0,x1,x2,x3,x4] T) :=
 zH _ _ 4 _ _ x4 (zH _ _ 3 _ _ x3 (zH _ _ 2 _ _ x2 (zH _ _ 1 _ _ x1 (zH _ _ 0 _ _ x0 h))))
theorem dY(h:Below n w W)(hE:n<=E)(x0 x1 x2 x3 x4:Value):Below n w (((((W.setCell ⟨E,0,none⟩ x0).setCell ⟨E,1,none⟩ x1).setCell ⟨E,2,none⟩ x2).setCell ⟨E,3,none⟩ x3).setCell ⟨E,4,none⟩ x4) :=
 ((((h.setCell (p:=⟨E,0,none⟩) hE _).setCell (p:=⟨E,1,none⟩) hE _).setCell (p:=⟨E,2,none⟩) hE _).setCell (p:=⟨E,3,none⟩) hE _).setCell (p:=⟨E,4,none⟩) hE _
theorem gi{g:Nat}(hg:g≠E)(x0 x1 x2 x3 x4:Value):(((((W.setCell ⟨E,0,none⟩ x0).setCell ⟨E,1,none⟩ x1).setCell ⟨E,2,none⟩ x2).setCell ⟨E,3,none⟩ x3).setCell ⟨E,4,none⟩ x4).heap[g]?=W.heap[g]?:=by
 rw[zJ _ _ _ _ hg,zJ _ _ _ _ hg,zJ _ _ _ _ hg,zJ _ _ _ _ hg,zJ _ _ _ _ hg]
theorem jP(p:Addr)(hp:p.block≠E)(x0 x1 x2 x3 x4:Value):(((((W.setCell ⟨E,0,none⟩ x0).setCell ⟨E,1,none⟩ x1).setCell ⟨E,2,none⟩ x2).setCell ⟨E,3,none⟩ x3).setCell ⟨E,4,none⟩ x4).cell? p=W.cell? p:=by
 unfold World.cell?;rw[gi hp]
theorem LnS.put(h:LnS w X M x q)(h1:w.heap.size<X)(h2:M<X)(y:Ln):LnS w X M y (((((q.setCell ⟨X,0,none⟩ (.int .i64 y.m)).setCell ⟨X,1,none⟩ (.int .i64 y.a)).setCell ⟨X,2,none⟩ (.bool y.p)).setCell ⟨X,3,none⟩ (.bool y.c)).setCell ⟨X,4,none⟩ (.bool y.d)) :=
 ⟨(gi (by omega) _ _ _ _ _).trans h.r,gu h.x _ _ _ _ _,(gi (by omega) _ _ _ _ _).trans h.m,dY h.b (by omega) _ _ _ _ _⟩
theorem HoldsO.at{v:Value}{F:List Op.Opt}(h:HoldsO w v F)(i:Nat)(hi:i<F.length): ∃g,(∃cp,v=.slice (some ⟨g,0,none⟩) F.length cp)/\g<w.heap.size/\w.cell? ⟨g,i*2,none⟩=some (.int .i64 F[i].kind)/\w.cell? ⟨g,i*2+1,none⟩=some (.string F[i].data):=by
 rcases h with⟨_,_,_,e⟩|⟨g,cp,cur,e,q1,q2,q3⟩
 .rw [e]at hi;exact absurd hi (Nat.not_lt_zero _)
 .have hg:=bW F i _ (List.getElem?_eq_getElem hi);exact⟨g,⟨cp,e⟩,(ge.1 q1).1,by rw[cr q1,q3 _ (by omega)];exact hg.1,by rw[cr q1,q3 _ (by omega)];exact hg.2⟩
theorem gv(v:Value)(F:List Op.Opt)(w:World)(hm:F.length<=maxLen)(h:HoldsO w v F):Calls prog 132 #[v] w fun e w'=>e=.returned (.agg (gR (iJ F)))/\Below w.heap.size w w':=by
 have C1:=aa fun W (hb:Below w.heap.size w W)=>nm v F W hm (h.below hb rfl)
 unfold iJ;cases hr:Op.right F
 .rw [if_neg (by decide)];rw[hr]at C1;obtain⟨ad,cp,rfl⟩:=h.form;have hb0:Below w w (w.alloc (.cells #[(0:Int),(0:Int),false,false,false] 30)):=(zC _ _).alloc (zD _) _;have hr0:=zF w (.cells #[(0:Int),(0:Int),false,false,false] 30);have H0:=aa (zA hr0 hb0);clear hr0 hb0 h;go_enter func132,ntmps132
  go_wp2_with fail
  refine(uh C1 _ H0.out.2).mono ?_;rintro e w1⟨rfl,hb1⟩;have hr1:=(hb1.block w (by simp)).trans H0.out.1;have hB1:=H0.out.2.trans (hb1.mono H0.out.2.size);obtain⟨r0,r1,r2,r3,r4,f0,f1,f2,f3,f4⟩:=fq hr1;have H1:=aa (zA hr1 hB1);clear hr1 hB1 hb1 H0 C1;go_wp2
  refine bodyPost_ret (v:=.agg #[(0:Int),(0:Int),false,false,false]) (by simp[results,results132,asAddr,Cn (gu H1.out.1 (0:Int) (0:Int) false false false)]) rfl ⟨rfl,dY H1.out.2 (zD _) _ _ _ _ _⟩
 .rw [if_pos rfl];rw[hr]at C1;have hFl:=Op.right_len hr;have HFO:=aa (Op.right_all hr);have HAT:=aa fun i hi=>h.at i hi
  obtain⟨ad,cp,rfl⟩:=h.form;obtain⟨n,hn⟩ := ex F.length;have hb0:Below w w (w.alloc (.cells #[(0:Int),(0:Int),false,false,false] 30)):=(zC _ _).alloc (zD _) _;have hr0:=zF w (.cells #[(0:Int),(0:Int),false,false,false] 30);have H0:=aa (zA hr0 hb0);clear hr0 hb0 h hr;have HTL:Hid (F.take n=F):=aa (List.take_of_length_le (by omega));obtain⟨R,hR⟩ := ex (ud F);rw[hR];have HR:=aa hR;clear hR;rw[hn]at C1|-;go_enter func132,ntmps132
  go_wp2_with fail
  refine(uh C1 _ H0.out.2).mono ?_;rintro e w1⟨rfl,hb1⟩;have hr1:=(hb1.block w (by simp)).trans H0.out.1;have hB1:=H0.out.2.trans (hb1.mono H0.out.2.size);have H1:=aa (zA hr1 hB1);clear hr1 hB1 hb1 H0 C1;go_wp2_with fail
  refine(dF _).mono ?_;rintro e w2⟨rfl,hm2,hb2⟩;have hI:LnS w w2 w1 (ud (F.take 0)) (w2.alloc (.cells #[(300:Int),(4294967295:Int),false,false,false] 30)):=by
   have hl1:=(ge.1 H1.out.1).1;have hl2:=(ge.1 hm2).1;have hr2:=(hb2.block w hl1).trans H1.out.1;have hB2:=H1.out.2.trans (hb2.mono H1.out.2.size);have hs2:=hb2.size;exact⟨(zG _ _ _ (by omega)).trans hr2,zF w2 _,(zG _ _ _ hl2).trans hm2,hB2.alloc hB2.size _⟩
  have hX:w.heap.size<w2.heap.size/\w1.heap.size<w2.heap.size:=⟨Nat.lt_of_lt_of_le (ge.1 H1.out.1).1 hb2.size,(ge.1 hm2).1⟩;have HI:=aa hI;clear hI hm2 hb2 H1;obtain⟨hX1,hX2⟩:=hX;go_wp2_with fail
  generalize w1.heap.size=M at*;generalize w2.heap.size=X at*;go_loopw [17] (fun y wr=>∃i:Nat,i<=n/\y=.int .i64 i/\LnS w X M (ud (F.take i)) wr) (fun y _=>n-(intOf y).toNat)
  case atStart=>exact⟨0,Nat.zero_le _,rfl,uh HI⟩
  case round =>
   obtain⟨i,hi,rfl,hS⟩:=hrel;clear HI;by_cases hlt:i<n
   .have d1:(i:Int)<(n:Int):=by omega
    have d0:(0:Int)<=(i:Int):=by omega
    obtain⟨g,⟨cp2,e2⟩,hgl,k0,k1⟩:=uh HAT i (by omega);cases e2;replace k0:=(hS.b.cell (p:=⟨g,i*2,none⟩) hgl).trans k0;replace k1:=(hS.b.cell (p:=⟨g,i*2+1,none⟩) hgl).trans k1;have HSN:=aa (i_ F i (by omega));have hok:=uh HFO _ (List.getElem_mem (show i<F.length by omega));generalize F[i]'(by omega)=o at*;obtain⟨kd,dt⟩:=o;dsimp only at k0 k1;generalize ud (F.take i)=x at*;have hds:dt.size<=20:=by unfold Op.ok at hok;have:=of_decide_eq_true hok;exact this.2.2
    have HS:=aa hS;clear hS HAT HFO hok;go_upto_region 8 with fail
    refine bb (fun q=>LnS w X M x q/\q.heap[wr.heap.size]?=some (.cells #[kd,dt] 105))
     ⟨HS.out.step ((zC _ _).alloc (zD _) _),zF wr _⟩ ?_
    rintro q1⟨hS1,hO1⟩;have hN1:X<wr.heap.size:=(ge.1 HS.out.x).1;generalize wr.heap.size=N1 at*;have hl1:N1<q1.heap.size:=(ge.1 hO1).1;obtain⟨c0,c1,_,_⟩:=av hO1;have HV1:=aa (zA hS1 hO1);clear hO1 HS k0 k1;unfold xP at HSN;dsimp only at HSN;rcases ur kd with⟨s,f,f2,f3,f4,f5,j,hs,hJ⟩|⟨hs,hf⟩
    .have CR:=aa (gh M kd dt s f f2 f3 f4 f5 j q1 hS1.m hJ.fd);have hcf:=hJ.cf;have HJL:=aa hJ.ln;have h4:=i8 hs;clear hS1 hJ;go_wp2_with fail
     refine CR.out.mono ?_;rintro e w3⟨rfl,hb3⟩;have HV3:=aa (zA (HV1.out.1.step hb3) ((hb3.block N1 hl1).trans HV1.out.2));have hl3:N1<w3.heap.size:=Nat.lt_of_lt_of_le hl1 hb3.size;clear hb3 HV1 hl1 c0 c1 CR;cases hq:((dt.size:Int)==(s:Int))
     .have hne:¬(bN kd=some dt.size):=fun e=>by
       rw[hs]at e;cases e;rw[beq_self_eq_true]at hq;cases hq
      rw[if_neg hne]at HSN;go_wp2_with fail
      go_roundw
      case rel=>exact⟨i+1,by omega,by go_num,by rw[uh HSN];exact HV3.out.1.step ((zC _ _).alloc (zD _) _)⟩
      case measure=>simp[intOf];omega
     .have hes:dt.size=s:=by have:=eq_of_beq hq;omega
      rw[if_pos (by rw[hs,hes])]at HSN;have CN:=aa fun v=>i7 kd dt v (by omega)
      have hnx:=eM dt.data.toList (by rw[bC];omega);have HJ2:=aa fun v=>uh HJL x (da dt.data.toList) v
      generalize da dt.data.toList=nx at*;clear HJL;go_upto_region 10 with fail
      refine bb (fun q=>LnS w X M x q/\q.heap[N1]?=some (.cells #[kd,dt] 105)/\q.heap[w3.heap.size]?=some (.cells #[s,cY f,cY f2,cY f3,cY f4,cY f5] 191))
       ⟨HV3.out.1.step ((zC _ _).alloc (zD _) _),(zG _ _ _ hl3).trans HV3.out.2,zF w3 _⟩ ?_
      rintro q4⟨hS4,hO4,hR4⟩;have hN2:X<w3.heap.size:=by omega
      generalize w3.heap.size=N2 at*;obtain⟨c0,c1,_,_⟩:=av hO4;obtain⟨_,_,_,_,_,r5⟩:=aJ hR4;have HV4:=aa (zA hS4 (zA hO4 hR4));clear hS4 hO4 hR4 HV3;refine wp_region_held_drew (S:=fun z=>z.cell? (N1,0)=some (.int .i64 kd)/\z.cell? (N1,1)=some (.string dt)/\z.cell? (N2,5)=some (cY f5)) (by kernel_rfl) ?_ (fun hHeld=>?_)
      .exact ⟨c0,c1,r5⟩
      refine tt 0 1 ?_;refine t2 3 ?_;refine wpAnyH_ready (rs:=[2,4]) (by kernel_rfl) (by simp) ?_;have hn1:N1<q4.heap.size:=(ge.1 HV4.out.2.1).1;have hn2:N2<q4.heap.size:=(ge.1 HV4.out.2.2).1;refine AllReadyH.cons rfl (fun K hK=>?_) (AllReadyH.cons rfl (fun K hK=>?_) AllReadyH.nil)
      .obtain ⟨m0,m1,m2,m3,m4,_,_,_,_,_⟩:=fq HV4.out.1.x;go_simp;refine hK.out _ _ ?_ (fun hHeld2=>?_)
       .exact ⟨c0,c1,r5⟩
       clear hK K m0 m1 m2 m3 m4;try simp only[Act.put,sA,sZ,sS,gA,gZ,gS]
       refine r3 4 fun K hK=>?_
       go_simp;refine(uh CN _).mono ?_;rintro e w5⟨rfl,hb5⟩;have B5:Below q4 q4 w5:=(zC _ _).drew.trans hb5;go_wp2_with fail
       refine hK.out _ _ ?_ (fun hHeld3=>?_)
       .exact ⟨(B5.cell (p:=(N1,0)) hn1).trans c0,(B5.cell (p:=(N1,1)) hn1).trans c1,(B5.cell (p:=(N2,5)) hn2).trans r5⟩
       clear hK K;try simp only[Act.put,sA,sZ,sS,gA,gZ,gS]
       refine r3 5 fun K hK=>?_
       go_simp;refine(uh HJ2 _).mono ?_;rintro e w6⟨rfl,hb6⟩;have B6:Below q4 q4 w6:=B5.trans (hb6.mono B5.size);have h6:=HV4.out.1.step B6;go_wp2_with fail
       refine hK.out _ _ ?_ (fun hHeld4=>?_)
       .exact ⟨(B6.cell (p:=(N1,0)) hn1).trans c0,(B6.cell (p:=(N1,1)) hn1).trans c1,(B6.cell (p:=(N2,5)) hn2).trans r5⟩
       clear hK K;try simp only[Act.put,sA,sZ,sS,gA,gZ,gS]
       refine r3 6 fun K hK=>?_
       obtain⟨m0,m1,m2,m3,m4,f0,f1',f2',f3',f4'⟩:=fq h6.x;have HL:=aa (h6.put hX1 hX2 (gT kd x nx));have n1X:N1≠X:=by omega
       have n2X:N2≠X:=by omega
       go_simp;refine hK.out _ _ ?_ (fun hHeld5=>?_)
       .have T:=fun p (hp:p.block≠X)=>jP (W:=w6) (E:=X) p hp (.int .i64 (gT kd x nx).m) (.int .i64 (gT kd x nx).a) (.bool (gT kd x nx).p) (.bool (gT kd x nx).c) (.bool (gT kd x nx).d)
        exact⟨(T ⟨N1,0,none⟩ n1X).trans ((B6.cell (p:=⟨N1,0,none⟩) hn1).trans c0),(T ⟨N1,1,none⟩ n1X).trans ((B6.cell (p:=⟨N1,1,none⟩) hn1).trans c1),(T ⟨N2,5,none⟩ n2X).trans ((B6.cell (p:=⟨N2,5,none⟩) hn2).trans r5)⟩
       clear hK K;try simp only[Act.put,sA,sZ,sS,gA,gZ,gS]
       refine dn ?_ _;go_wp2_with fail
       go_roundw
       case rel=>exact⟨i+1,by omega,by go_num,by rw[uh HSN];exact uh HL⟩
       case measure=>simp[intOf];omega
      .go_simp;refine(uh CN _).mono ?_;rintro e w5⟨rfl,hb5⟩;have B5:Below q4 q4 w5:=(zC _ _).drew.trans hb5;go_wp2_with fail
       refine hK.out _ _ ?_ (fun hHeld2=>?_)
       .exact ⟨(B5.cell (p:=(N1,0)) hn1).trans c0,(B5.cell (p:=(N1,1)) hn1).trans c1,(B5.cell (p:=(N2,5)) hn2).trans r5⟩
       clear hK K;try simp only[Act.put,sA,sZ,sS,gA,gZ,gS]
       refine r3 2 fun K hK=>?_
       obtain⟨m0,m1,m2,m3,m4,_,_,_,_,_⟩:=fq (HV4.out.1.step B5).x;go_simp;refine hK.out _ _ ?_ (fun hHeld3=>?_)
       .exact ⟨(B5.cell (p:=(N1,0)) hn1).trans c0,(B5.cell (p:=(N1,1)) hn1).trans c1,(B5.cell (p:=(N2,5)) hn2).trans r5⟩
       clear hK K m0 m1 m2 m3 m4;try simp only[Act.put,sA,sZ,sS,gA,gZ,gS]
       refine r3 5 fun K hK=>?_
       go_simp;refine(uh HJ2 _).mono ?_;rintro e w6⟨rfl,hb6⟩;have B6:Below q4 q4 w6:=B5.trans (hb6.mono B5.size);have h6:=HV4.out.1.step B6;go_wp2_with fail
       refine hK.out _ _ ?_ (fun hHeld4=>?_)
       .exact ⟨(B6.cell (p:=(N1,0)) hn1).trans c0,(B6.cell (p:=(N1,1)) hn1).trans c1,(B6.cell (p:=(N2,5)) hn2).trans r5⟩
       clear hK K;try simp only[Act.put,sA,sZ,sS,gA,gZ,gS]
       refine r3 6 fun K hK=>?_
       obtain⟨m0,m1,m2,m3,m4,f0,f1',f2',f3',f4'⟩:=fq h6.x;have HL:=aa (h6.put hX1 hX2 (gT kd x nx));have n1X:N1≠X:=by omega
       have n2X:N2≠X:=by omega
       go_simp;refine hK.out _ _ ?_ (fun hHeld5=>?_)
       .have T:=fun p (hp:p.block≠X)=>jP (W:=w6) (E:=X) p hp (.int .i64 (gT kd x nx).m) (.int .i64 (gT kd x nx).a) (.bool (gT kd x nx).p) (.bool (gT kd x nx).c) (.bool (gT kd x nx).d)
        exact⟨(T ⟨N1,0,none⟩ n1X).trans ((B6.cell (p:=⟨N1,0,none⟩) hn1).trans c0),(T ⟨N1,1,none⟩ n1X).trans ((B6.cell (p:=⟨N1,1,none⟩) hn1).trans c1),(T ⟨N2,5,none⟩ n2X).trans ((B6.cell (p:=⟨N2,5,none⟩) hn2).trans r5)⟩
       clear hK K;try simp only[Act.put,sA,sZ,sS,gA,gZ,gS]
       refine dn ?_ _;go_wp2_with fail
       go_roundw
       case rel=>exact⟨i+1,by omega,by go_num,by rw[uh HSN];exact uh HL⟩
       case measure=>simp[intOf];omega
    .have CR:=aa (gW M kd dt q1 hS1.m hf);rw[if_neg (by rw[hs];intro e;cases e)]at HSN;clear hS1 hf;go_wp2_with fail
     refine CR.out.mono ?_;rintro e w3⟨rfl,hb3⟩;have HV3:=aa (HV1.out.1.step hb3);clear hb3 HV1 hl1 c0 c1 CR;go_wp2_with fail
     go_roundw
     case rel=>exact⟨i+1,by omega,by go_num,by rw[uh HSN];exact HV3.out.step ((zC _ _).alloc (zD _) _)⟩
     case measure=>simp[intOf];omega
   .have e:i=n:=by omega
    subst e;have d1:¬((i:Int)<(i:Int)):=by omega
    rw[uh HTL,uh HR]at hS;obtain⟨m0,m1,m2,m3,m4,_,_,_,_,_⟩:=fq hS.x;obtain⟨r0,r1,r2,r3,r4,f0,f1,f2,f3,f4⟩:=fq hS.r;have HS:=aa hS;clear hS HAT HFO HTL HR;go_wp2
    exact bodyPost_ret (v:=.agg (gR R)) (by simp[results,results132,asAddr,Cn (gu HS.out.r R.m R.a R.p R.c R.d)]) rfl ⟨rfl,dY HS.out.b (zD _) _ _ _ _ _⟩
structure Touch(B:Nat)(w w':World):Prop where
 os:w'.os=w.os
 tape:w'.tape=w.tape
 output:w'.output=w.output
 size:w'.heap.size=w.heap.size
 block:∀k,k≠B->w'.heap[k]?=w.heap[k]?
theorem Touch.refl(B:Nat)(w:World):Touch B w w:=⟨rfl,rfl,rfl,rfl,fun _ _=>rfl⟩
theorem Touch.trans{b c:World}(h:Touch B a b)(k:Touch B b c):Touch B a c :=
 ⟨k.os.trans h.os,k.tape.trans h.tape,k.output.trans h.output,k.size.trans h.size,fun i hi=>(k.block i hi).trans (h.block i hi)⟩
theorem Touch.drew(h:Touch B a w):Touch B a w.drew:=⟨h.os,h.tape,h.output,h.size,h.block⟩
theorem Touch.setCell(h:Touch B a w)(o:Nat)(v:Value):Touch B a (w.setCell (B,o) v):=by
 have hb:=(zC 0 w).setCell (p:=(B,o)) (Nat.zero_le _) v;exact⟨hb.os.trans h.os,hb.tape.trans h.tape,hb.output.trans h.output,by
  rw[<- h.size];simp[World.setCell];done,fun k hk=>(zJ w (B,o) v k hk).trans (h.block k hk)⟩
theorem Touch.below(h:Touch B w w'):Below B w w' :=
 ⟨h.os,h.tape,h.output,by rw[h.size];exact zD _,fun k hk=>h.block k (by omega)⟩
def Dat(w:World)(B:Nat)(sl:Value)(n:Nat):Prop :=
 (∃a cap,sl=.slice a n cap)/\∀i,i<n->∃(b o cap x:Nat),sl=.slice (some (b,o)) n cap/\b<B/\w.cell? (b,o+i)=some (.int .u8 x)/\x<256
def Src(w:World)(B:Nat)(sl:Value)(n:Nat):Prop :=
 ∃(p m z:Nat),p<=n/\m<18446744073709551616/\z<=12/\w.heap[B]?=some (.cells #[sl,p,.int .u64 m,z] 54)
theorem Bh(h:w.heap[B]?=some (.cells #[x0,x1,x2,x3] T)):w.cell? (B,0)=some x0/\w.cell? (B,1)=some x1/\w.cell? (B,2)=some x2/\w.cell? (B,3)=some x3 /\
  w.frozen? (B,0)=false/\w.frozen? (B,1)=false/\w.frozen? (B,2)=false/\w.frozen? (B,3)=false :=
 ⟨by rw[cell_of_row _ _ 0 _ _ (0,0) h];rfl,by rw[cell_of_row _ _ 1 _ _ (0,0) h];rfl,by rw[cell_of_row _ _ 2 _ _ (0,0) h];rfl,by rw[cell_of_row _ _ 3 _ _ (0,0) h];rfl,
  by simp[World.frozen?,h],by simp[World.frozen?,h],by simp[World.frozen?,h],by simp[World.frozen?,h]⟩
theorem G9(h:w.heap[B]?=some (.cells #[x0,x1,x2,x3] T))(v:Value):(w.setCell (B,1) v).heap[B]?=some (.cells #[x0,v,x2,x3] T):=by
 rw[zH w B 1 _ T v h];rfl
theorem B1(h:w.heap[B]?=some (.cells #[x0,x1,x2,x3] T))(v:Value):(w.setCell (B,2) v).heap[B]?=some (.cells #[x0,x1,v,x3] T):=by
 rw[zH w B 2 _ T v h];rfl
theorem D0(h:w.heap[B]?=some (.cells #[x0,x1,x2,x3] T))(v:Value):(w.setCell (B,3) v).heap[B]?=some (.cells #[x0,x1,x2,v] T):=by
 rw[zH w B 3 _ T v h];rfl
theorem A9(x y:Int):∃m:Nat,m<18446744073709551616/\bits .xor .u64 x y=(m:Int):=by
 have h:=wf_bits .xor .u64 x y;have hw:0<=bits .xor .u64 x y/\bits .xor .u64 x y<=18446744073709551615:=by
  simpa[Lit.wf,IntKind.min,IntKind.max,IntKind.signed,IntKind.bits]using h
 obtain⟨m,hm⟩:=Int.eq_ofNat_of_zero_le hw.1;exact⟨m,by omega,hm⟩
theorem Eu(Y:Int)(most:Nat)(hY:0<=Y)(h1:1<most)(h2:most<4294967296):∃r:Nat,wrap64 (Y.tmod (most:Int))=(r:Int)/\r<most:=by
 rw[Int.tmod_eq_emod_of_nonneg hY];have h3:0<=Y%(most:Int):=Int.emod_nonneg _ (by omega);have h4:Y%(most:Int)<most:=Int.emod_lt_of_pos _ (by omega);obtain⟨r,hr⟩:=Int.eq_ofNat_of_zero_le h3;refine⟨r,?_,by omega⟩;rw[hr];unfold wrap64;omega
theorem EJ(w:World)(B:Nat)(most:Int)(h:most<=1):Calls prog 20 #[(B,0),most] w fun e w'=>e=.returned (.int .i64 0)/\w'=w:=by
 go_enter func20,ntmps20
 go_wp2
 go_ret
 exact⟨rfl,rfl⟩
theorem EL(w:World)(B:Nat)(sl:Value)(n p m z:Nat)(most:Nat)(h1:1<most)(h2:most<4294967296)(hn:n<=maxLen)(hp:p<n)(hB:w.heap[B]?=some (.cells #[sl,p,.int .u64 m,z] 54))(hD:Dat w B sl n):Calls prog 20 #[(B,0),most] w fun e w'=>∃r m':Nat,e=.returned (.int .i64 r)/\r<most/\m' < 18446744073709551616 /\
   w'.heap[B]?=some (.cells #[sl,.int .i64 (p+1:Nat),.int .u64 m',z] 54)/\Touch B w w':=by
 obtain⟨b,o,cap,x,rfl,hb,hx,hx2⟩:=hD.2 p hp;unfold maxLen at hn;obtain⟨c0,c1,c2,c3,f0,f1,f2,f3⟩:=Bh hB;have hbB:b≠B:=by omega
 have HB:=aa hB;clear hB hD;go_enter func20,ntmps20
 go_wp2_with fail
 go_region
 go_wp2_with fail
 go_region
 go_wp2_with fail
 refine bb (fun v=>v.heap[B]?=some (.cells #[.slice (some (b,o)) n cap,.int .i64 (p+1:Nat),.int .u64 m,z] 54)/\Touch B w v)
  ⟨G9 (w:=w) HB.out _,((Touch.refl B w).setCell 1 _).drew.drew⟩ ?_
 clear c0 c1 c2 c3 f0 f1 f2 f3 HB hx;rintro v1⟨hB,t1⟩;obtain⟨c0,c1,c2,c3,f0,f1,f2,f3⟩:=Bh hB;have HB:=aa hB;clear hB;go_region
 go_wp2_with fail
 obtain⟨m1,hm1,e1⟩:=A9 (m:Int) (IntKind.u64.wrap ((m:Int)*8192));rw[e1]
 refine bb (fun v=>v.heap[B]?=some (.cells #[.slice (some (b,o)) n cap,.int .i64 (p+1:Nat),.int .u64 m1,z] 54)/\Touch B w v)
  ⟨B1 (w:=v1) HB.out _,(t1.setCell 2 _).drew⟩ ?_
 clear c0 c1 c2 c3 f0 f1 f2 f3 HB e1 t1;rintro v2⟨hB,t1⟩;obtain⟨c0,c1,c2,c3,f0,f1,f2,f3⟩:=Bh hB;have HB:=aa hB;clear hB;go_region
 go_wp2_with fail
 obtain⟨m2,hm2,e1⟩:=A9 (m1:Int) ((m1:Int) / 128);rw[e1]
 refine bb (fun v=>v.heap[B]?=some (.cells #[.slice (some (b,o)) n cap,.int .i64 (p+1:Nat),.int .u64 m2,z] 54)/\Touch B w v)
  ⟨B1 (w:=v2) HB.out _,(t1.setCell 2 _).drew⟩ ?_
 clear c0 c1 c2 c3 f0 f1 f2 f3 HB e1 t1;rintro v3⟨hB,t1⟩;obtain⟨c0,c1,c2,c3,f0,f1,f2,f3⟩:=Bh hB;have HB:=aa hB;clear hB;go_region
 go_wp2_with fail
 obtain⟨m3,hm3,e1⟩:=A9 (m2:Int) (IntKind.u64.wrap ((m2:Int)*131072));rw[e1];go_ret
 have hB2:=B1 (w:=v3) HB.out (.int .u64 m3);have t2:=(t1.setCell 2 (.int .u64 m3)).drew;clear e1 c0 c1 c2 c3 f0 f1 f2 f3 HB t1;obtain⟨r,hr1,hr2⟩:=Eu (IntKind.u64.wrap ((x:Int)+(m3:Int) / 1048576)) most (by rw[IntKind.wrap_u64];omega) h1 h2;exact⟨r,m3,j8 hr1,hr2,hm3,hB2,t2⟩
theorem EM(w:World)(B:Nat)(sl:Value)(n p m z:Nat)(most:Nat)(h1:1<most)(h2:most<4294967296)(hp:p=n)(hB:w.heap[B]?=some (.cells #[sl,p,.int .u64 m,z] 54))(hD:Dat w B sl n):Calls prog 20 #[(B,0),most] w fun e w'=>∃r m':Nat,e=.returned (.int .i64 r)/\r<most/\m' < 18446744073709551616 /\
   w'.heap[B]?=some (.cells #[sl,p,.int .u64 m',z] 54)/\Touch B w w':=by
 obtain⟨a,cap,rfl⟩:=hD.1;obtain⟨c0,c1,c2,c3,f0,f1,f2,f3⟩:=Bh hB;have HB:=aa hB;have hpn:¬((p:Int)<(n:Int)):=by omega
 clear hB hD hp;go_enter func20,ntmps20
 go_wp2_with fail
 go_region
 go_wp2_with fail
 refine bb (fun v=>v.heap[B]?=some (.cells #[(a,n,cap),p,.int .u64 m,z] 54)/\Touch B w v)
  ⟨uh HB,(Touch.refl B w).drew⟩ ?_
 clear c0 c1 c2 c3 f0 f1 f2 f3 HB;rintro v1⟨hB,t1⟩;obtain⟨c0,c1,c2,c3,f0,f1,f2,f3⟩:=Bh hB;have HB:=aa hB;clear hB;go_region
 go_wp2_with fail
 obtain⟨m1,hm1,e1⟩:=A9 (m:Int) (IntKind.u64.wrap ((m:Int)*8192));rw[e1]
 refine bb (fun v=>v.heap[B]?=some (.cells #[(a,n,cap),p,.int .u64 m1,z] 54)/\Touch B w v)
  ⟨B1 (w:=v1) HB.out _,(t1.setCell 2 _).drew⟩ ?_
 clear c0 c1 c2 c3 f0 f1 f2 f3 HB e1 t1;rintro v2⟨hB,t1⟩;obtain⟨c0,c1,c2,c3,f0,f1,f2,f3⟩:=Bh hB;have HB:=aa hB;clear hB;go_region
 go_wp2_with fail
 obtain⟨m2,hm2,e1⟩:=A9 (m1:Int) ((m1:Int) / 128);rw[e1]
 refine bb (fun v=>v.heap[B]?=some (.cells #[(a,n,cap),p,.int .u64 m2,z] 54)/\Touch B w v)
  ⟨B1 (w:=v2) HB.out _,(t1.setCell 2 _).drew⟩ ?_
 clear c0 c1 c2 c3 f0 f1 f2 f3 HB e1 t1;rintro v3⟨hB,t1⟩;obtain⟨c0,c1,c2,c3,f0,f1,f2,f3⟩:=Bh hB;have HB:=aa hB;clear hB;go_region
 go_wp2_with fail
 obtain⟨m3,hm3,e1⟩:=A9 (m2:Int) (IntKind.u64.wrap ((m2:Int)*131072));rw[e1];go_ret
 have hB2:=B1 (w:=v3) HB.out (.int .u64 m3);have t2:=(t1.setCell 2 (.int .u64 m3)).drew;clear e1 c0 c1 c2 c3 f0 f1 f2 f3 HB t1;obtain⟨r,hr1,hr2⟩:=Eu (IntKind.u64.wrap ((m3:Int) / 1048576)) most (by rw[IntKind.wrap_u64];omega) h1 h2;exact⟨r,m3,j8 hr1,hr2,hm3,hB2,t2⟩
theorem x8(w:World)(B:Nat)(sl:Value)(n:Nat)(most:Nat)(h2:most<4294967296)(hn:n<=maxLen)(hS:Src w B sl n)(hD:Dat w B sl n):Calls prog 20 #[(B,0),most] w fun e w'=>∃r:Nat,e=.returned (.int .i64 r)/\(r<most\/r=0)/\Src w' B sl n/\Touch B w w':=by
 obtain⟨p,m,z,hp,hm,hz,hB⟩:=hS;by_cases h1:1<most
 .by_cases hpn:p<n
  .refine (EL w B sl n p m z most h1 h2 hn hpn hB hD).mono ?_;rintro e w'⟨r,m',he,hr,hm',hB',ht⟩;exact⟨r,he,Or.inl hr,⟨p+1,m',z,by omega,hm',hz,hB'⟩,ht⟩
  .refine (EM w B sl n p m z most h1 h2 (by omega) hB hD).mono ?_;rintro e w'⟨r,m',he,hr,hm',hB',ht⟩;exact⟨r,he,Or.inl hr,⟨p,m',z,hp,hm',hz,hB'⟩,ht⟩
 .refine (EJ w B most (by omega)).mono ?_;rintro e w'⟨he,rfl⟩;exact⟨0,he,Or.inr rfl,⟨p,m,z,hp,hm,hz,hB⟩,Touch.refl _ _⟩
theorem zB(w:World)(B:Nat)(sl:Value)(n:Nat)(most:Nat)(h2:most<4294967296)(hn:n<=maxLen)(hS:Src w B sl n)(hD:Dat w B sl n):Calls prog 21 #[(B,0),most] w fun e w'=>∃b:Bool,e=.returned (.bool b)/\Src w' B sl n/\Touch B w w':=by
 have c:=x8 w B sl n most h2 hn hS hD;go_enter func21,ntmps21
 go_wp2_with fail
 refine c.mono ?_;rintro e w1⟨r,rfl,hr,hS1,ht1⟩;go_wp2
 go_ret
 exact⟨_,rfl,hS1,ht1⟩
theorem Dat.below(h:Dat w B sl n)(hb:Below B w w'):Dat w' B sl n :=
 ⟨h.1,fun i hi=>by
  obtain⟨b,o,cap,x,h1,h2,h3,h4⟩:=h.2 i hi;exact⟨b,o,cap,x,h1,h2,by rw[<- h3];exact hb.cell (p:=(b,o+i)) h2,h4⟩⟩
theorem Src.same(h:Src w B sl n)(hb:w'.heap[B]?=w.heap[B]?):Src w' B sl n:=by
 obtain⟨p,m,z,h1,h2,h3,h4⟩:=h;exact⟨p,m,z,h1,h2,h3,hb.trans h4⟩
theorem Src.lt(h:Src w B sl n):B<w.heap.size:=by
 obtain⟨p,m,z,h1,h2,h3,h4⟩:=h;exact(ge.1 h4).1
end Go.Proofs.YtjdgiimfpkideaaGreatDoor
