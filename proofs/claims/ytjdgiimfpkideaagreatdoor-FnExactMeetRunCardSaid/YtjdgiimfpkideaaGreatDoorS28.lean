/- WkG WkN -/
import Derived.Test.YtjdgiimfpkideaaGreatDoorS26
set_option maxHeartbeats 8000000
set_option maxRecDepth 100000
namespace Go.Proofs.YtjdgiimfpkideaaGreatDoor
open Go.RowKit Go.Proofs.Tryz
def bY (now:Int):Cx:=⟨now,0,0,⟨#[]⟩,[],0,[],.slice none 0 0,.slice none 0 0⟩
abbrev jF (e:En) (v1 v2:Value) (now:Int):List Value:=lF (bY now) e v1 v2 (.slice none 0 0) (.slice none 0 0)
theorem gH {P:Program} {o:Oper} {a:Act} {w w':World} {K:Act→World→Prop} {Q:Exit→Act→World→Prop} {v:Value} (hrun:(execOp a.eval o).run P w=.ok (.value v) w') (h:K (a.put o.dst v) w'):Oper.wp P o a w K Q:=by
 unfold Oper.wp;rw [hrun,Oper.upon_value];exact h
theorem kw {W:World} {E:Nat} {cs:Array Value} {T:TypeId} (h:W.heap[E]?=some (.cells cs T)):W.rangeAt E 0 cs.toList:=by
 intro j u hu;rw [cr h,Nat.zero_add,← Array.getElem?_toList];exact hu
theorem Lay.start {T:TypeId} (hT:Tt T) {w z:World} {e:En} {v1 v2:Value} {F1 F2:List Op.Opt} {n1 n2:Nat} (e1:F1.length=n1) (e2:F2.length=n2) (now:Int) (o1:z.ownsRow w.heap.size 105 2 v1 n1 (aj F1)) (o2:z.ownsRow w.heap.size 105 2 v2 n2 (aj F2)) (ap:Ap v1 v2) (lo:Below w.heap.size w z) :
  Lay T w (z.alloc (.cells (jF e v1 v2 now).toArray T)) z.heap.size (bY now) ⟨e,F1,F2,[],[]⟩ v1 v2 (.slice none 0 0) (.slice none 0 0) (z.alloc (.cells (jF e v1 v2 now).toArray T)):=by
 subst e1 e2;have hb:Below z.heap.size z (z.alloc (.cells (jF e v1 v2 now).toArray T)):=(zC _ _).alloc (zD _) _;exact ⟨zF z _,aP o1 hb,aP o2 hb,World.ownsRow_nil _ _ _ _,World.ownsRow_nil _ _ _ _,World.ownsRow_nil _ _ _ _,eY _ _ _,lo.size,hT,ap,(Ap.none _ _ _).symm,lo.trans (hb.mono lo.size),Nr.refl _ _⟩
theorem xh (now:Int) (w:World):Calls prog 70 #[.int .i64 now] w fun e w'=>e=.returned (.bool (al 0 1000000000 now))∧w'=w:=by
 have C:=aa (dl now 0 1000000000 w);go_enter func70,ntmps70
 go_wp2_with fail
 refine (uh C).mono ?_;rintro r ws ⟨rfl,hws⟩;replace hws:=hws.symm;subst hws;go_wp2
 go_ret
 exact ⟨rfl,rfl⟩
def uW (T:TypeId) (w:World) (e:En) (F1 F2:List Op.Opt) (now:Int) (ok:Bool) (r:Ending) (w':World):Prop :=
 ∃ B v1 v2,r=.returned (.tuple #[.pointer (some ⟨B,0,none⟩),.bool ok])∧Lay T w w' B (bY now) ⟨e,F1,F2,[],[]⟩ v1 v2 (.slice none 0 0) (.slice none 0 0) w'
theorem mU (e:En) (x1 x2:Option Addr) (y1 y2:Nat) (F1 F2:List Op.Opt) (now:Int) (w:World) (l1:F1.length≤1048576) (l2:F2.length≤1048576) (h1:HoldsO w (.slice x1 F1.length y1) F1) (h2:HoldsO w (.slice x2 F2.length y2) F2) :
  Calls prog 51 #[.agg (aA e (.slice x1 F1.length y1) (.slice x2 F2.length y2)),.int .i64 now] w fun r w'=>uW 99 w e F1 F2 now (dJ e F1 F2 && al 0 1000000000 now) r w':=by
 have CC:=aa fun W (hb:Below w.heap.size w W)=>xg e x1 x2 y1 y2 F1 F2 W l1 l2 (h1.below hb rfl) (h2.below hb rfl)
 have CR:=aa fun W (hb:Below w.heap.size w W)=>kv e x1 x2 y1 y2 F1 F2 W (by unfold maxLen;omega) (by unfold maxLen;omega) (h1.below hb rfl) (h2.below hb rfl)
 have CT:=aa fun W=>xh now W
 clear h1 h2;have hA:=zF w (.cells (aA e (.slice x1 F1.length y1) (.slice x2 F2.length y2)) 32);have hbA:Below w.heap.size w (w.alloc (.cells (aA e (.slice x1 F1.length y1) (.slice x2 F2.length y2)) 32)):=(zC _ _).alloc (zD _) _;have H0:=aa (zA hA hbA);clear hA hbA;generalize dJ e F1 F2=ok1 at *;generalize al 0 1000000000 now=ok2 at *;obtain ⟨n1,e1⟩:∃ n,F1.length=n:=⟨_,rfl⟩;obtain ⟨n2,e2⟩:∃ n,F2.length=n:=⟨_,rfl⟩;rw [e1] at CC CR H0 ⊢;rw [e2] at CC CR H0 ⊢;go_enter func51,ntmps51
 go_upto_region 1 with fail
 refine ab (fun z=>z.heap[w.heap.size]?=some (.cells (aA e (.slice x1 n1 y1) (.slice x2 n2 y2)) 32)∧Below w.heap.size w z) ?_ ?_
 ·exact uh H0
 clear H0;rintro z ⟨za,zl⟩;have HZ:=aa (zA za (zl.trans ((zC _ _).drew.mono zl.size)));refine wp_region_held_drew (S:=fun z=>z.heap[w.heap.size]?=some (.cells (aA e (.slice x1 n1 y1) (.slice x2 n2 y2)) 32)) (by kernel_rfl) ?_ (fun hHeld=>?_)
 ·exact za
 clear za zl;refine t4 0 (.agg (aA e (.slice x1 n1 y1) (.slice x2 n2 y2))) rfl (yieldsIf_load_mid (by rfl) 32 (.tmp 2) rfl w.heap.size 0 rfl (aA e (.slice x1 n1 y1) (.slice x2 n2 y2)).toList _ (fun z hz=>kw hz) underlying32 rfl aL) ?_;try simp only [Act.put,sA,sZ,sS,gA,gZ]
 refine t2 2 ?_;refine t4 5 (.agg (aA e (.slice x1 n1 y1) (.slice x2 n2 y2))) rfl (yieldsIf_load_mid (by rfl) 32 (.tmp 2) rfl w.heap.size 0 rfl (aA e (.slice x1 n1 y1) (.slice x2 n2 y2)).toList _ (fun z hz=>kw hz) underlying32 rfl aL) ?_;try simp only [Act.put,sA,sZ,sS,gA,gZ,gS]
 refine r3 1 fun K hK=>?_
 go_simp;refine (uh CC _ (uh HZ).2).mono ?_;rintro r z1 ⟨w1,w2,rfl,ho1,ho2,hap,hb1⟩;have ha1:=(hb1.block w.heap.size (ge.1 (uh HZ).1).1).trans (uh HZ).1;have hl1:=(uh HZ).2.trans (hb1.mono (uh HZ).2.size);have hs1:=(uh HZ).2.size;obtain ⟨a1,p1,q1⟩:=af ho1;obtain ⟨a2,p2,q2⟩:=af ho2;subst q1 q2;have HC:=aa (zA (aE ho1 hs1) (zA (aE ho2 hs1) (zA hap (zA ha1 hl1))));clear ho1 ho2 hap hb1 hl1 hs1 HZ;go_wp2_with fail
 refine ro hK ?_ fun _=>?_
 ·exact ha1
 clear hK K;clear ha1;refine t4 3 (.agg (jF e (.slice a1 n1 p1) (.slice a2 n2 p2) now).toArray) rfl (Or.inl ⟨by rfl,fun _ _=>by kernel_rfl⟩) ?_;try simp only [Act.put,sA,sZ,sS,gA,gZ,gS]
 cases ok1
 ·refine r4 4 6 (fun K hK=>?_) (fun K hK=>?_)
  ·rw [if_pos (by rfl)];refine gH (v:=.pointer (some ⟨z1.heap.size,0,none⟩)) (w':=z1.alloc (.cells (jF e (.slice a1 n1 p1) (.slice a2 n2 p2) now).toArray 99)) (by as_aux_lemma=>kernel_rfl) ?_;obtain ⟨o1,o2,ap,za,zl⟩:=uh HC;have hL:=Lay.start wV (e:=e) e1 e2 now o1 o2 ap zl;have zb:=(zG z1 (.cells (jF e (.slice a1 n1 p1) (.slice a2 n2 p2) now).toArray 99) w.heap.size (ge.1 za).1).trans za;obtain ⟨B,hB⟩:∃ B,z1.heap.size=B:=⟨_,rfl⟩;rw [hB] at hL;rw [hB];obtain ⟨z2,hz2⟩:∃ z',z1.alloc (.cells (jF e (.slice a1 n1 p1) (.slice a2 n2 p2) now).toArray 99)=z':=⟨_,rfl⟩;rw [hz2] at hL zb;rw [hz2];have HL:=aa (zA hL zb);clear hL o1 o2 ap za zl HC hz2 hB;refine ro hK ?_ fun _=>?_
   ·exact zb
   clear hK K zb;refine r3 6 fun K hK=>?_
   go_simp;refine (uh CR _ (uh HL).1.low).mono ?_;rintro r z3 ⟨rfl,hb⟩;have HL3:=aa (zA ((uh HL).1.step hb) ((hb.block w.heap.size (ge.1 (uh HL).2).1).trans (uh HL).2));clear hb HL;have HL:=HL3;clear HL3;go_wp2_with fail
   refine ro hK ?_ fun _=>?_
   ·exact (uh HL).2
   clear hK K;refine t2 7 ?_;refine t5 8 ?_;refine t5 9 ?_;refine tt 10 11 ?_;refine t2 12 ?_;refine dn ?_ _;go_wp2
   exact bodyPost_ret (v:=.tuple #[.pointer (some ⟨B,0,none⟩),.bool false]) (by simp [results,results51]) rfl ⟨B,_,_,rfl,(uh HL).1.rebase rfl rfl⟩
  ·go_simp;refine (uh CR _ (uh HC).2.2.2.2).mono ?_;rintro r z2 ⟨rfl,hb⟩;have HC2:=aa (zA (aP (uh HC).1 hb) (zA (aP (uh HC).2.1 hb) (zA (uh HC).2.2.1 (zA ((hb.block w.heap.size (ge.1 (uh HC).2.2.2.1).1).trans (uh HC).2.2.2.1) ((uh HC).2.2.2.2.trans (hb.mono (uh HC).2.2.2.2.size))))));clear hb HC;have HC:=HC2;clear HC2;go_wp2_with fail
   refine ro hK ?_ fun _=>?_
   ·exact (uh HC).2.2.2.1
   clear hK K;refine t2 7 ?_;refine t5 8 ?_;refine t5 9 ?_;refine t2 10 ?_;refine r3 4 fun K hK=>?_
   rw [if_pos (by rfl)];refine gH (v:=.pointer (some ⟨z2.heap.size,0,none⟩)) (w':=z2.alloc (.cells (jF e (.slice a1 n1 p1) (.slice a2 n2 p2) now).toArray 99)) (by as_aux_lemma=>kernel_rfl) ?_;obtain ⟨o1,o2,ap,za,zl⟩:=uh HC;have hL:=Lay.start wV (e:=e) e1 e2 now o1 o2 ap zl;have zb:=(zG z2 (.cells (jF e (.slice a1 n1 p1) (.slice a2 n2 p2) now).toArray 99) w.heap.size (ge.1 za).1).trans za;obtain ⟨B,hB⟩:∃ B,z2.heap.size=B:=⟨_,rfl⟩;rw [hB] at hL;rw [hB];obtain ⟨z3,hz3⟩:∃ z',z2.alloc (.cells (jF e (.slice a1 n1 p1) (.slice a2 n2 p2) now).toArray 99)=z':=⟨_,rfl⟩;rw [hz3] at hL zb;rw [hz3];have HL:=aa (zA hL zb);clear hL o1 o2 ap za zl HC hz3 hB;refine ro hK ?_ fun _=>?_
   ·exact zb
   clear hK K zb;refine tt 11 12 ?_;refine dn ?_ _;go_wp2
   exact bodyPost_ret (v:=.tuple #[.pointer (some ⟨B,0,none⟩),.bool false]) (by simp [results,results51]) rfl ⟨B,_,_,rfl,(uh HL).1.rebase rfl rfl⟩
 ·refine r4 4 6 (fun K hK=>?_) (fun K hK=>?_)
  ·rw [if_pos (by rfl)];refine gH (v:=.pointer (some ⟨z1.heap.size,0,none⟩)) (w':=z1.alloc (.cells (jF e (.slice a1 n1 p1) (.slice a2 n2 p2) now).toArray 99)) (by as_aux_lemma=>kernel_rfl) ?_;obtain ⟨o1,o2,ap,za,zl⟩:=uh HC;have hL:=Lay.start wV (e:=e) e1 e2 now o1 o2 ap zl;have zb:=(zG z1 (.cells (jF e (.slice a1 n1 p1) (.slice a2 n2 p2) now).toArray 99) w.heap.size (ge.1 za).1).trans za;obtain ⟨B,hB⟩:∃ B,z1.heap.size=B:=⟨_,rfl⟩;rw [hB] at hL;rw [hB];obtain ⟨z2,hz2⟩:∃ z',z1.alloc (.cells (jF e (.slice a1 n1 p1) (.slice a2 n2 p2) now).toArray 99)=z':=⟨_,rfl⟩;rw [hz2] at hL zb;rw [hz2];have HL:=aa (zA hL zb);clear hL o1 o2 ap za zl HC hz2 hB;refine ro hK ?_ fun _=>?_
   ·exact zb
   clear hK K zb;refine r3 6 fun K hK=>?_
   go_simp;refine (uh CR _ (uh HL).1.low).mono ?_;rintro r z3 ⟨rfl,hb⟩;have HL3:=aa (zA ((uh HL).1.step hb) ((hb.block w.heap.size (ge.1 (uh HL).2).1).trans (uh HL).2));clear hb HL;have HL:=HL3;clear HL3;go_wp2_with fail
   refine ro hK ?_ fun _=>?_
   ·exact (uh HL).2
   clear hK K;refine tt 7 8 ?_;refine r3 9 fun K hK=>?_
   go_simp;refine (uh CT _).mono ?_;rintro r zt ⟨rfl,hws⟩;replace hws:=hws.symm;subst hws;go_wp2_with fail
   refine ro hK ?_ fun _=>?_
   ·exact (uh HL).2
   clear hK K;refine tt 10 11 ?_;refine t2 12 ?_;refine dn ?_ _;go_wp2
   exact bodyPost_ret (v:=.tuple #[.pointer (some ⟨B,0,none⟩),.bool ok2]) (by simp [results,results51]) rfl ⟨B,_,_,rfl,(uh HL).1.rebase rfl rfl⟩
  ·go_simp;refine (uh CR _ (uh HC).2.2.2.2).mono ?_;rintro r z2 ⟨rfl,hb⟩;have HC2:=aa (zA (aP (uh HC).1 hb) (zA (aP (uh HC).2.1 hb) (zA (uh HC).2.2.1 (zA ((hb.block w.heap.size (ge.1 (uh HC).2.2.2.1).1).trans (uh HC).2.2.2.1) ((uh HC).2.2.2.2.trans (hb.mono (uh HC).2.2.2.2.size))))));clear hb HC;have HC:=HC2;clear HC2;go_wp2_with fail
   refine ro hK ?_ fun _=>?_
   ·exact (uh HC).2.2.2.1
   clear hK K;refine tt 7 8 ?_;refine r4 4 9 (fun K hK=>?_) (fun K hK=>?_)
   ·rw [if_pos (by rfl)];refine gH (v:=.pointer (some ⟨z2.heap.size,0,none⟩)) (w':=z2.alloc (.cells (jF e (.slice a1 n1 p1) (.slice a2 n2 p2) now).toArray 99)) (by as_aux_lemma=>kernel_rfl) ?_;obtain ⟨o1,o2,ap,za,zl⟩:=uh HC;have hL:=Lay.start wV (e:=e) e1 e2 now o1 o2 ap zl;have zb:=(zG z2 (.cells (jF e (.slice a1 n1 p1) (.slice a2 n2 p2) now).toArray 99) w.heap.size (ge.1 za).1).trans za;obtain ⟨B,hB⟩:∃ B,z2.heap.size=B:=⟨_,rfl⟩;rw [hB] at hL;rw [hB];obtain ⟨z3,hz3⟩:∃ z',z2.alloc (.cells (jF e (.slice a1 n1 p1) (.slice a2 n2 p2) now).toArray 99)=z':=⟨_,rfl⟩;rw [hz3] at hL zb;rw [hz3];have HL:=aa (zA hL zb);clear hL o1 o2 ap za zl HC hz3 hB;refine ro hK ?_ fun _=>?_
    ·exact zb
    clear hK K zb;refine r3 9 fun K hK=>?_
    go_simp;refine (uh CT _).mono ?_;rintro r zt ⟨rfl,hws⟩;replace hws:=hws.symm;subst hws;go_wp2_with fail
    refine ro hK ?_ fun _=>?_
    ·exact (uh HL).2
    clear hK K;refine tt 10 11 ?_;refine t2 12 ?_;refine dn ?_ _;go_wp2
    exact bodyPost_ret (v:=.tuple #[.pointer (some ⟨B,0,none⟩),.bool ok2]) (by simp [results,results51]) rfl ⟨B,_,_,rfl,(uh HL).1.rebase rfl rfl⟩
   ·go_simp;refine (uh CT _).mono ?_;rintro r zt ⟨rfl,hws⟩;replace hws:=hws.symm;subst hws;go_wp2_with fail
    refine ro hK ?_ fun _=>?_
    ·exact (uh HC).2.2.2.1
    clear hK K;refine t2 10 ?_;refine r3 4 fun K hK=>?_
    rw [if_pos (by rfl)];refine gH (v:=.pointer (some ⟨z2.heap.size,0,none⟩)) (w':=z2.alloc (.cells (jF e (.slice a1 n1 p1) (.slice a2 n2 p2) now).toArray 99)) (by as_aux_lemma=>kernel_rfl) ?_;obtain ⟨o1,o2,ap,za,zl⟩:=uh HC;have hL:=Lay.start wV (e:=e) e1 e2 now o1 o2 ap zl;have zb:=(zG z2 (.cells (jF e (.slice a1 n1 p1) (.slice a2 n2 p2) now).toArray 99) w.heap.size (ge.1 za).1).trans za;obtain ⟨B,hB⟩:∃ B,z2.heap.size=B:=⟨_,rfl⟩;rw [hB] at hL;rw [hB];obtain ⟨z3,hz3⟩:∃ z',z2.alloc (.cells (jF e (.slice a1 n1 p1) (.slice a2 n2 p2) now).toArray 99)=z':=⟨_,rfl⟩;rw [hz3] at hL zb;rw [hz3];have HL:=aa (zA hL zb);clear hL o1 o2 ap za zl HC hz3 hB;refine ro hK ?_ fun _=>?_
    ·exact zb
    clear hK K zb;refine tt 11 12 ?_;refine dn ?_ _;go_wp2
    exact bodyPost_ret (v:=.tuple #[.pointer (some ⟨B,0,none⟩),.bool ok2]) (by simp [results,results51]) rfl ⟨B,_,_,rfl,(uh HL).1.rebase rfl rfl⟩
theorem ig {w w':World} {b:Nat} {e e':TypeId} {k k':Nat} {v v':Value} {n n':Nat} {xs ys:List Value} (h:w.ownsRow b e k v n xs) (h':w'.ownsRow w.heap.size e' k' v' n' ys):Ap v v':=fun g hg e=>by
 have h1:=(h.lt g hg).2;have h2:=(h'.lt g e).1;omega
theorem qK (e:En) (x1 x2:Option Addr) (y1 y2:Nat) (F1 F2:List Op.Opt) (now:Int) (w:World) (rg1:Op.right F1=true) (r2:Op.right F2=true) (h1:HoldsO w (.slice x1 F1.length y1) F1) (h2:HoldsO w (.slice x2 F2.length y2) F2) :
  Calls prog 85 #[.agg (aA e (.slice x1 F1.length y1) (.slice x2 F2.length y2)),.int .i64 now] w fun r w'=>∃ B v1 v2,r=.returned (.pointer (some ⟨B,0,none⟩))∧Lay 129 w w' B (bY now) ⟨e,F1,F2,[],[]⟩ v1 v2 (.slice none 0 0) (.slice none 0 0) w':=by
 have C1:=aa fun W (hb:Below w.heap.size w W)=>qA _ F1 W rg1 (h1.below hb rfl)
 have C2:=aa fun W (hb:Below w.heap.size w W)=>qA _ F2 W r2 (h2.below hb rfl)
 clear h1 h2;obtain ⟨A,eA⟩:∃ A,w.heap.size=A:=⟨_,rfl⟩;have hA:=zF w (.cells (aA e (.slice x1 F1.length y1) (.slice x2 F2.length y2)) 32);have hbA:Below w.heap.size w (w.alloc (.cells (aA e (.slice x1 F1.length y1) (.slice x2 F2.length y2)) 32)):=(zC _ _).alloc (zD _) _;rw [eA] at hA;have H0:=aa (zA hA hbA);clear hA hbA;obtain ⟨n1,e1⟩:∃ n,F1.length=n:=⟨_,rfl⟩;obtain ⟨n2,e2⟩:∃ n,F2.length=n:=⟨_,rfl⟩;rw [e1] at C1 H0 ⊢;rw [e2] at C2 H0 ⊢;go_enter func85,ntmps85
 go_upto_region 1 with fail
 refine ab (fun z=>z.heap[A]?=some (.cells (aA e (.slice x1 n1 y1) (.slice x2 n2 y2)) 32)∧Below w.heap.size w z) ?_ ?_
 ·exact uh H0
 clear H0;rintro z ⟨za,zl⟩;have hAw:w.heap.size≤z.heap.size:=zl.size;have hAl:A<z.heap.size:=(ge.1 za).1;have c17:z.cell? ⟨A,17,none⟩=some (.slice x1 n1 y1):=by rw [cr za];rfl
 have c18:z.cell? ⟨A,18,none⟩=some (.slice x2 n2 y2):=by rw [cr za];rfl
 have HZ:=aa (zA za (zl.trans ((zC z.heap.size z).drew.mono zl.size)));clear za zl;go_cut [5] (fun _ wx=>∃ a1 p1 a2 p2,wx.heap[A]?=some (.cells (aA e (.slice a1 n1 p1) (.slice a2 n2 p2)) 32)∧wx.ownsRow w.heap.size 105 2 (.slice a1 n1 p1) n1 (aj F1)∧wx.ownsRow w.heap.size 105 2 (.slice a2 n2 p2) n2 (aj F2)∧Ap (.slice a1 n1 p1) (.slice a2 n2 p2)∧Below w.heap.size w wx)
 case first =>
  refine wp_region_held_drew (S:=fun _=>True) (by kernel_rfl) trivial (fun hHeld=>?_);refine tt 0 3 ?_;refine r4 1 4 (fun K hK=>?_) (fun K hK=>?_)
  ·have cx:=c17;go_simp;refine ro hK trivial fun _=>?_
   clear hK K;clear cx;refine r4 2 4 (fun K hK=>?_) (fun K hK=>?_)
   ·go_simp;refine (uh C1 _ (uh HZ).2).mono ?_;rintro r w5 ⟨a1,p1,rfl,ho1,hb5⟩;have q5:=(hb5.block A hAl).trans (uh HZ).1;have d18:w5.cell? ⟨A,18,none⟩=some (.slice x2 n2 y2):=by rw [cr q5];rfl
    have H5:=aa (zA q5 (zA ho1 ((uh HZ).2.trans (hb5.mono (uh HZ).2.size))));have hs5:w.heap.size≤z.heap.size:=hAw;clear q5 ho1 hb5;go_wp2_with fail
    refine ro hK trivial fun _=>?_
    clear hK K;refine r3 4 fun K hK=>?_
    have cx:=d18;go_simp;refine ro hK trivial fun _=>?_
    clear hK K;clear cx;refine t2 6 ?_;refine r3 5 fun K hK=>?_
    go_simp;refine (uh C2 _ (uh H5).2.2).mono ?_;rintro r w6 ⟨a2,p2,rfl,ho2,hb6⟩;have q6:=(hb6.block A (ge.1 (uh H5).1).1).trans (uh H5).1;have g17:w6.cell? ⟨A,17,none⟩=some (.slice x1 n1 y1):=by rw [cr q6];rfl
    have f17:w6.frozen? ⟨A,17,none⟩=false:=aX q6 17;have r7:=zH w6 A 17 _ _ (.slice a1 n1 p1) q6;have g18:(w6.setCell ⟨A,17,none⟩ (.slice a1 n1 p1)).cell? ⟨A,18,none⟩=some (.slice x2 n2 y2):=by rw [cr r7];rfl
    have f18:(w6.setCell ⟨A,17,none⟩ (.slice a1 n1 p1)).frozen? ⟨A,18,none⟩=false:=aX r7 18;have r8:=zH (w6.setCell ⟨A,17,none⟩ (.slice a1 n1 p1)) A 18 _ _ (.slice a2 n2 p2) r7;have k1:=aP (uh H5).2.1 hb6;have hap:=ig (uh H5).2.1 ho2;have hlo:=(uh H5).2.2.trans (hb6.mono (uh H5).2.2.size);have n1A:∀ g,(Value.slice a1 n1 p1).ownBlock=some g→g≠A:=fun g hg e=>by have h1:z.heap.size≤g:=(k1.lt g hg).1;omega
    have n2A:∀ g,(Value.slice a2 n2 p2).ownBlock=some g→g≠A:=fun g hg e=>by have h1:=(ho2.lt g hg).1;have h2:=(ge.1 (uh H5).1).1;omega
    have hk:∀ g,g≠A→((w6.setCell ⟨A,17,none⟩ (.slice a1 n1 p1)).setCell ⟨A,18,none⟩ (.slice a2 n2 p2)).heap[g]?=w6.heap[g]?:=fun g hg=>(heap_setCell_other _ _ _ _ hg).trans (heap_setCell_other _ _ _ _ hg)
    have H6:=aa (zA (show ((w6.setCell ⟨A,17,none⟩ (.slice a1 n1 p1)).setCell ⟨A,18,none⟩ (.slice a2 n2 p2)).heap[A]?=some (.cells (aA e (.slice a1 n1 p1) (.slice a2 n2 p2)) 32) from r8) (zA (aE (ak k1 fun g hg=>hk g (n1A g hg)) hAw) (zA (aE (ak ho2 fun g hg=>hk g (n2A g hg)) (uh H5).2.2.size) (zA hap ((hlo.setCell (p:=⟨A,17,none⟩) (Nat.le_of_eq eA) (.slice a1 n1 p1)).setCell (p:=⟨A,18,none⟩) (Nat.le_of_eq eA) (.slice a2 n2 p2))))));clear q6 r7 r8 ho2 hb6 k1 hap hlo n1A n2A hk;go_wp2_with fail
    refine ro hK trivial fun _=>?_
    clear hK K;refine r3 7 fun K hK=>?_
    go_simp;refine ro hK trivial fun _=>?_
    clear hK K;refine t2 8 ?_;refine r3 9 fun K hK=>?_
    go_simp;refine hK.out _ _ trivial (fun _=>?_);clear hK K;try simp only [Act.put,List.getElem_toArray,List.getElem_cons_zero,List.getElem_cons_succ]
    refine dn ?_ _;go_wp2_with fail
    go_meet;exact ⟨a1,p1,a2,p2,uh H6⟩
   ·have cx:=c18;go_simp;refine ro hK trivial fun _=>?_
    clear hK K;clear cx;refine r3 2 fun K hK=>?_
    go_simp;refine (uh C1 _ (uh HZ).2).mono ?_;rintro r w5 ⟨a1,p1,rfl,ho1,hb5⟩;have q5:=(hb5.block A hAl).trans (uh HZ).1;have d18:w5.cell? ⟨A,18,none⟩=some (.slice x2 n2 y2):=by rw [cr q5];rfl
    have H5:=aa (zA q5 (zA ho1 ((uh HZ).2.trans (hb5.mono (uh HZ).2.size))));have hs5:w.heap.size≤z.heap.size:=hAw;clear q5 ho1 hb5;go_wp2_with fail
    refine ro hK trivial fun _=>?_
    clear hK K;refine t2 6 ?_;refine r3 5 fun K hK=>?_
    go_simp;refine (uh C2 _ (uh H5).2.2).mono ?_;rintro r w6 ⟨a2,p2,rfl,ho2,hb6⟩;have q6:=(hb6.block A (ge.1 (uh H5).1).1).trans (uh H5).1;have g17:w6.cell? ⟨A,17,none⟩=some (.slice x1 n1 y1):=by rw [cr q6];rfl
    have f17:w6.frozen? ⟨A,17,none⟩=false:=aX q6 17;have r7:=zH w6 A 17 _ _ (.slice a1 n1 p1) q6;have g18:(w6.setCell ⟨A,17,none⟩ (.slice a1 n1 p1)).cell? ⟨A,18,none⟩=some (.slice x2 n2 y2):=by rw [cr r7];rfl
    have f18:(w6.setCell ⟨A,17,none⟩ (.slice a1 n1 p1)).frozen? ⟨A,18,none⟩=false:=aX r7 18;have r8:=zH (w6.setCell ⟨A,17,none⟩ (.slice a1 n1 p1)) A 18 _ _ (.slice a2 n2 p2) r7;have k1:=aP (uh H5).2.1 hb6;have hap:=ig (uh H5).2.1 ho2;have hlo:=(uh H5).2.2.trans (hb6.mono (uh H5).2.2.size);have n1A:∀ g,(Value.slice a1 n1 p1).ownBlock=some g→g≠A:=fun g hg e=>by have h1:z.heap.size≤g:=(k1.lt g hg).1;omega
    have n2A:∀ g,(Value.slice a2 n2 p2).ownBlock=some g→g≠A:=fun g hg e=>by have h1:=(ho2.lt g hg).1;have h2:=(ge.1 (uh H5).1).1;omega
    have hk:∀ g,g≠A→((w6.setCell ⟨A,17,none⟩ (.slice a1 n1 p1)).setCell ⟨A,18,none⟩ (.slice a2 n2 p2)).heap[g]?=w6.heap[g]?:=fun g hg=>(heap_setCell_other _ _ _ _ hg).trans (heap_setCell_other _ _ _ _ hg)
    have H6:=aa (zA (show ((w6.setCell ⟨A,17,none⟩ (.slice a1 n1 p1)).setCell ⟨A,18,none⟩ (.slice a2 n2 p2)).heap[A]?=some (.cells (aA e (.slice a1 n1 p1) (.slice a2 n2 p2)) 32) from r8) (zA (aE (ak k1 fun g hg=>hk g (n1A g hg)) hAw) (zA (aE (ak ho2 fun g hg=>hk g (n2A g hg)) (uh H5).2.2.size) (zA hap ((hlo.setCell (p:=⟨A,17,none⟩) (Nat.le_of_eq eA) (.slice a1 n1 p1)).setCell (p:=⟨A,18,none⟩) (Nat.le_of_eq eA) (.slice a2 n2 p2))))));clear q6 r7 r8 ho2 hb6 k1 hap hlo n1A n2A hk;go_wp2_with fail
    refine ro hK trivial fun _=>?_
    clear hK K;refine r3 7 fun K hK=>?_
    go_simp;refine ro hK trivial fun _=>?_
    clear hK K;refine t2 8 ?_;refine r3 9 fun K hK=>?_
    go_simp;refine hK.out _ _ trivial (fun _=>?_);clear hK K;try simp only [Act.put,List.getElem_toArray,List.getElem_cons_zero,List.getElem_cons_succ]
    refine dn ?_ _;go_wp2_with fail
    go_meet;exact ⟨a1,p1,a2,p2,uh H6⟩
  ·have cx:=c18;go_simp;refine ro hK trivial fun _=>?_
   clear hK K;clear cx;refine r3 1 fun K hK=>?_
   have cx:=c17;go_simp;refine ro hK trivial fun _=>?_
   clear hK K;clear cx;refine r3 2 fun K hK=>?_
   go_simp;refine (uh C1 _ (uh HZ).2).mono ?_;rintro r w5 ⟨a1,p1,rfl,ho1,hb5⟩;have q5:=(hb5.block A hAl).trans (uh HZ).1;have d18:w5.cell? ⟨A,18,none⟩=some (.slice x2 n2 y2):=by rw [cr q5];rfl
   have H5:=aa (zA q5 (zA ho1 ((uh HZ).2.trans (hb5.mono (uh HZ).2.size))));have hs5:w.heap.size≤z.heap.size:=hAw;clear q5 ho1 hb5;go_wp2_with fail
   refine ro hK trivial fun _=>?_
   clear hK K;refine t2 6 ?_;refine r3 5 fun K hK=>?_
   go_simp;refine (uh C2 _ (uh H5).2.2).mono ?_;rintro r w6 ⟨a2,p2,rfl,ho2,hb6⟩;have q6:=(hb6.block A (ge.1 (uh H5).1).1).trans (uh H5).1;have g17:w6.cell? ⟨A,17,none⟩=some (.slice x1 n1 y1):=by rw [cr q6];rfl
   have f17:w6.frozen? ⟨A,17,none⟩=false:=aX q6 17;have r7:=zH w6 A 17 _ _ (.slice a1 n1 p1) q6;have g18:(w6.setCell ⟨A,17,none⟩ (.slice a1 n1 p1)).cell? ⟨A,18,none⟩=some (.slice x2 n2 y2):=by rw [cr r7];rfl
   have f18:(w6.setCell ⟨A,17,none⟩ (.slice a1 n1 p1)).frozen? ⟨A,18,none⟩=false:=aX r7 18;have r8:=zH (w6.setCell ⟨A,17,none⟩ (.slice a1 n1 p1)) A 18 _ _ (.slice a2 n2 p2) r7;have k1:=aP (uh H5).2.1 hb6;have hap:=ig (uh H5).2.1 ho2;have hlo:=(uh H5).2.2.trans (hb6.mono (uh H5).2.2.size);have n1A:∀ g,(Value.slice a1 n1 p1).ownBlock=some g→g≠A:=fun g hg e=>by have h1:z.heap.size≤g:=(k1.lt g hg).1;omega
   have n2A:∀ g,(Value.slice a2 n2 p2).ownBlock=some g→g≠A:=fun g hg e=>by have h1:=(ho2.lt g hg).1;have h2:=(ge.1 (uh H5).1).1;omega
   have hk:∀ g,g≠A→((w6.setCell ⟨A,17,none⟩ (.slice a1 n1 p1)).setCell ⟨A,18,none⟩ (.slice a2 n2 p2)).heap[g]?=w6.heap[g]?:=fun g hg=>(heap_setCell_other _ _ _ _ hg).trans (heap_setCell_other _ _ _ _ hg)
   have H6:=aa (zA (show ((w6.setCell ⟨A,17,none⟩ (.slice a1 n1 p1)).setCell ⟨A,18,none⟩ (.slice a2 n2 p2)).heap[A]?=some (.cells (aA e (.slice a1 n1 p1) (.slice a2 n2 p2)) 32) from r8) (zA (aE (ak k1 fun g hg=>hk g (n1A g hg)) hAw) (zA (aE (ak ho2 fun g hg=>hk g (n2A g hg)) (uh H5).2.2.size) (zA hap ((hlo.setCell (p:=⟨A,17,none⟩) (Nat.le_of_eq eA) (.slice a1 n1 p1)).setCell (p:=⟨A,18,none⟩) (Nat.le_of_eq eA) (.slice a2 n2 p2))))));clear q6 r7 r8 ho2 hb6 k1 hap hlo n1A n2A hk;go_wp2_with fail
   refine ro hK trivial fun _=>?_
   clear hK K;refine r3 7 fun K hK=>?_
   go_simp;refine ro hK trivial fun _=>?_
   clear hK K;refine t2 8 ?_;refine r3 9 fun K hK=>?_
   go_simp;refine hK.out _ _ trivial (fun _=>?_);clear hK K;try simp only [Act.put,List.getElem_toArray,List.getElem_cons_zero,List.getElem_cons_succ]
   refine dn ?_ _;go_wp2_with fail
   go_meet;exact ⟨a1,p1,a2,p2,uh H6⟩
 case rest =>
  obtain ⟨a1,p1,a2,p2,hq⟩:=hcut;have HQ:=aa hq;clear hq;go_upto_region 2 with fail
  refine ab (fun q=>q.heap[A]?=some (.cells (aA e (.slice a1 n1 p1) (.slice a2 n2 p2)) 32)∧q.ownsRow w.heap.size 105 2 (.slice a1 n1 p1) n1 (aj F1)∧q.ownsRow w.heap.size 105 2 (.slice a2 n2 p2) n2 (aj F2)∧Ap (.slice a1 n1 p1) (.slice a2 n2 p2)∧Below w.heap.size w q) ?_ ?_
  ·exact uh HQ
  clear HQ HZ c17 c18;rintro q hq;have HQ:=aa hq;clear hq
  go_wp2_with (first
   | (refine wpList_load_row rfl 32 (.tmp 2) rfl A rfl 32 (aA e (.slice a1 n1 p1) (.slice a2 n2 p2)) (0,0) _ (uh HQ).1 underlying32 rfl aL ?_)
   | (refine wpList_buildTo rfl 129 _ rfl (some 15) rfl (jF e (.slice a1 n1 p1) (.slice a2 n2 p2) now).toArray (by as_aux_lemma=>kernel_rfl) ?_)
   | (refine Great.wpList_allocTo rfl (some 16) rfl (.pointer (some ⟨q.heap.size,0,none⟩)) (.cells (jF e (.slice a1 n1 p1) (.slice a2 n2 p2) now).toArray 129) (by as_aux_lemma=>kernel_rfl) ?_))
  go_ret
  obtain ⟨_,o1,o2,ap,lo⟩:=uh HQ;exact ⟨_,_,_,rfl,Lay.start ttI e1 e2 now o1 o2 ap lo⟩
end Go.Proofs.YtjdgiimfpkideaaGreatDoor
