/- LawMt -/
import Derived.Test.YtjdgiimfpkideaaGreatDoorS46
import Derived.Test.YtjdgiimfpkideaaGreatDoorS47
set_option maxHeartbeats 32000000
set_option maxRecDepth 100000
set_option linter.unusedSimpArgs false
namespace Go.Proofs.YtjdgiimfpkideaaGreatDoor
open Go.RowKit Go.Proofs.Tryz
theorem x8 (m1 a1 g1:Int) (p1 c1 d1:Bool) (m2 a2 g2:Int) (p2 c2 d2:Bool) (v:Value) (L:List Int) (st:Bool) (w:World) (hlm:L.length≤maxLen) (hv:ArgI w v L) (tb:EvT w∧NxT w∧SpT w∧Et w) :
  Calls prog 4 #[.agg #[.int .i64 m1,.int .i64 a1,.int .i64 g1,.bool p1,.bool c1,.bool d1],.agg #[.int .i64 m2,.int .i64 a2,.int .i64 g2,.bool p2,.bool c2,.bool d2],v,.bool st] w fun r w'=>r=.returned (.bool true)∧Below w.heap.size w w':=by
 obtain ⟨va,vc,rfl⟩:=hv.1;obtain ⟨n,hn⟩:∃ n,L.length=n:=⟨_,rfl⟩;unfold maxLen at hlm;obtain ⟨A,eA⟩:∃ A,w.heap.size=A:=⟨_,rfl⟩;obtain ⟨_,hA,hP,hbA⟩:=br w (.cells #[.int .i64 m1,.int .i64 a1,.int .i64 g1,.bool p1,.bool c1,.bool d1] 40) (.cells #[.int .i64 m2,.int .i64 a2,.int .i64 g2,.bool p2,.bool c2,.bool d2] 40);rw [eA] at hA hP;have H0:Hid (K0 w A #[.int .i64 m1,.int .i64 a1,.int .i64 g1,.bool p1,.bool c1,.bool d1] #[.int .i64 m2,.int .i64 a2,.int .i64 g2,.bool p2,.bool c2,.bool d2] ((w.alloc (.cells #[.int .i64 m1,.int .i64 a1,.int .i64 g1,.bool p1,.bool c1,.bool d1] 40)).alloc (.cells #[.int .i64 m2,.int .i64 a2,.int .i64 g2,.bool p2,.bool c2,.bool d2] 40))):=aa ⟨hA,hP,hbA⟩;have hwA:w.heap.size≤A:=Nat.le_of_eq eA;have CK1:=aa fun W=>tv m1 a1 g1 p1 c1 d1 W
 have CK2:=aa fun W=>tv m2 a2 g2 p2 c2 d2 W
 have CT:Hid (n≤1048576→∀ W,Below w.heap.size w W→Calls prog 12 #[.slice va n vc] W fun e w'=>∃ u,e=.returned u∧HoldsI w' u L∧(∀ q,u.ownBlock=some q→W.heap.size≤q)∧Below W.heap.size W w'):=aa fun hl W hb=>by
  rw [← hn];exact y8 _ L W (by rw [hn];exact hl) (hv.below hb)
 have CS:Hid (n≤1048576→∀ (x:Option Addr) (y:Nat) (W:World),HoldsI W (.slice x n y) L→Calls prog 7 #[.agg #[.int .i64 m1,.int .i64 a1,.int .i64 g1,.bool p1,.bool c1,.bool d1],.agg #[.int .i64 m2,.int .i64 a2,.int .i64 g2,.bool p2,.bool c2,.bool d2],.slice x n y,.bool st] W fun e w'=>AnP false (eC m1 a1 g1 p1 c1 d1 m2 a2 g2 p2 c2 d2 L st) W e w'):=aa fun hl x y W h=>by
  rw [← hn] at h hl ⊢;exact rv m1 a1 g1 p1 c1 d1 m2 a2 g2 p2 c2 d2 st W hl h trivial
 have CI:Hid (n≤1048576→∀ (x:Option Addr) (y:Nat) (W:World),HoldsI W (.slice x n y) L→Below w.heap.size w W→Calls prog 6 #[.agg #[.int .i64 m1,.int .i64 a1,.int .i64 g1,.bool p1,.bool c1,.bool d1],.agg #[.int .i64 m2,.int .i64 a2,.int .i64 g2,.bool p2,.bool c2,.bool d2],.slice x n y,.bool st] W fun e w'=>AnP true (eC m1 a1 g1 p1 c1 d1 m2 a2 g2 p2 c2 d2 L st) W e w'):=aa fun hl x y W h hb=>by
  rw [← hn] at h hl ⊢;obtain ⟨t1,t2,t3,t4⟩:=tb;exact ru m1 a1 g1 p1 c1 d1 m2 a2 g2 p2 c2 d2 st W hl h ⟨t1.below hb,t2.below hb,t3.below hb,t4.below hb t4.lt⟩
 rw [hn];rw [hn] at hlm;clear hA hP hbA tb hv;generalize hoo:eC m1 a1 g1 p1 c1 d1 m2 a2 g2 p2 c2 d2 L st=o at *;have HML:=aa fun (lo hi:Nat) (W:World) (cs:List Value) (h:AnQ true lo hi W o cs)=>(by rw [← hoo] at h ⊢;exact rb m1 a1 g1 p1 c1 d1 m2 a2 g2 p2 c2 d2 L st h:o.a.F1.length≤100000∧o.a.F2.length≤100000∧o.b.F1.length≤100000∧o.b.F2.length≤100000)
 clear hoo;go_enter func4,ntmps4
 go_upto_region 1 with fail
 refine ab (K0 w A #[.int .i64 m1,.int .i64 a1,.int .i64 g1,.bool p1,.bool c1,.bool d1] #[.int .i64 m2,.int .i64 a2,.int .i64 g2,.bool p2,.bool c2,.bool d2]) (uh H0) ?_;clear H0 eA;intro w1 hw1;have ES:=aa hw1;clear hw1;by_cases hbig:1048576<n
 ·have d0:(1048576:Int)<(n:Int):=by omega
  go_wp2
  go_ret
  exact ⟨rfl,(uh ES).low⟩
 have hl:n≤1048576:=by omega
 have d0:¬ ((1048576:Int)<(n:Int)):=by omega
 replace CT:=aa (uh CT hl);replace CS:=aa (uh CS hl);replace CI:=aa (uh CI hl);have hAb:A+1<w1.heap.size:=(ge.1 (uh ES).b).1;go_upto_region 3 with fail
 have SY:Hid (∀ z,(K0 w A #[.int .i64 m1,.int .i64 a1,.int .i64 g1,.bool p1,.bool c1,.bool d1] #[.int .i64 m2,.int .i64 a2,.int .i64 g2,.bool p2,.bool c2,.bool d2]) z→(z.cell? ⟨A,0,none⟩=some (.int .i64 m1)∧z.cell? ⟨A,1,none⟩=some (.int .i64 a1)∧z.cell? ⟨A,2,none⟩=some (.int .i64 g1)∧z.cell? ⟨A,3,none⟩=some (.bool p1)∧z.cell? ⟨A,4,none⟩=some (.bool c1)∧z.cell? ⟨A,5,none⟩=some (.bool d1)∧z.cell? ⟨A+1,0,none⟩=some (.int .i64 m2)∧z.cell? ⟨A+1,1,none⟩=some (.int .i64 a2)∧z.cell? ⟨A+1,2,none⟩=some (.int .i64 g2)∧z.cell? ⟨A+1,3,none⟩=some (.bool p2)∧z.cell? ⟨A+1,4,none⟩=some (.bool c2)∧z.cell? ⟨A+1,5,none⟩=some (.bool d2))):=aa fun z hz=>⟨by rw [cr hz.a];rfl,by rw [cr hz.a];rfl,by rw [cr hz.a];rfl,by rw [cr hz.a];rfl,by rw [cr hz.a];rfl,by rw [cr hz.a];rfl,by rw [cr hz.b];rfl,by rw [cr hz.b];rfl,by rw [cr hz.b];rfl,by rw [cr hz.b];rfl,by rw [cr hz.b];rfl,by rw [cr hz.b];rfl⟩
 have JPS:∀ q q',(K0 w A #[.int .i64 m1,.int .i64 a1,.int .i64 g1,.bool p1,.bool c1,.bool d1] #[.int .i64 m2,.int .i64 a2,.int .i64 g2,.bool p2,.bool c2,.bool d2]) q→Below q.heap.size q q'→(K0 w A #[.int .i64 m1,.int .i64 a1,.int .i64 g1,.bool p1,.bool c1,.bool d1] #[.int .i64 m2,.int .i64 a2,.int .i64 g2,.bool p2,.bool c2,.bool d2]) q':=fun _ _ h hb=>h.step hb
 obtain ⟨base,hbase⟩:∃ base,w1.heap.size=base:=⟨_,rfl⟩;have HBS2:=aa hbase;have HBS:Hid (w.heap.size≤base ):=aa (by rw [← hbase];exact (uh ES).low.size);clear hbase;go_cut [9] (fun v wx=>∃ bb lo hi cs9,v=.pointer (some ⟨bb,0,none⟩)∧Jq (K0 w A #[.int .i64 m1,.int .i64 a1,.int .i64 g1,.bool p1,.bool c1,.bool d1] #[.int .i64 m2,.int .i64 a2,.int .i64 g2,.bool p2,.bool c2,.bool d2]) false base o cs9 wx bb lo hi)
 case first =>
  have E0:Hid (Jp (K0 w A #[.int .i64 m1,.int .i64 a1,.int .i64 g1,.bool p1,.bool c1,.bool d1] #[.int .i64 m2,.int .i64 a2,.int .i64 g2,.bool p2,.bool c2,.bool d2]) base w1.drew):=aa ⟨JPS _ _ (uh ES) (zC _ _).drew,Nat.le_of_eq (uh HBS2).symm⟩;refine wp_region_held_drew (S:=fun z=>z.cell? ⟨A,0,none⟩=some (.int .i64 m1)∧z.cell? ⟨A,1,none⟩=some (.int .i64 a1)∧z.cell? ⟨A,2,none⟩=some (.int .i64 g1)∧z.cell? ⟨A,3,none⟩=some (.bool p1)∧z.cell? ⟨A,4,none⟩=some (.bool c1)∧z.cell? ⟨A,5,none⟩=some (.bool d1)∧z.cell? ⟨A+1,0,none⟩=some (.int .i64 m2)∧z.cell? ⟨A+1,1,none⟩=some (.int .i64 a2)∧z.cell? ⟨A+1,2,none⟩=some (.int .i64 g2)∧z.cell? ⟨A+1,3,none⟩=some (.bool p2)∧z.cell? ⟨A+1,4,none⟩=some (.bool c2)∧z.cell? ⟨A+1,5,none⟩=some (.bool d2)) (by kernel_rfl) (uh SY _ (uh E0).j) (fun hHeld=>?_);generalize w1.drew=yy at E0 hHeld ⊢;refine tq 0 2 4 6 ?_;refine r4 1 8 (fun K hK=>?_) (fun K hK=>?_)
  ·go_simp;refine (uh CK1 yy).mono ?_;rintro r z41 ⟨rfl,hb41⟩;have E41:=aa ((uh E0).step JPS hb41);clear hb41;refine ro hK (uh SY _ (uh E41).j) fun _=>?_
   clear hK K;refine r4 3 8 (fun K hK=>?_) (fun K hK=>?_)
   ·go_simp;refine (uh CK2 z41).mono ?_;rintro r z42 ⟨rfl,hb42⟩;have E42:=aa ((uh E41).step JPS hb42);clear hb42;refine ro hK (uh SY _ (uh E42).j) fun _=>?_
    clear hK K;refine r4 5 8 (fun K hK=>?_) (fun K hK=>?_)
    ·go_simp;refine (uh CT z42 (uh E42).j.low).mono ?_;rintro r z43 ⟨u43,rfl,hI43,_,hb43⟩;obtain ⟨ua43,uc43,hu43⟩:=hI43.form;rw [hn] at hu43;subst hu43;have E43:=aa ((uh E42).step JPS hb43);have I43:=aa hI43;clear hb43 hI43;refine ro hK (uh SY _ (uh E43).j) fun _=>?_
     clear hK K;refine r4 7 8 (fun K hK=>?_) (fun K hK=>?_)
     ·go_simp;refine (uh CS _ _ z43 (uh I43)).mono ?_;rintro r z44 ⟨cs9,rfl,hA44,hb44⟩;have hQ44:AnQ false z43.heap.size z44.heap.size z44 o cs9:=AnQ.of hA44;have hlo44:base≤z43.heap.size:=(uh E43).sz;have HLO:=aa hlo44;clear hlo44;have E44:=aa ((uh E43).step JPS hb44);have I44:=aa ((uh I43).below hb44 rfl);have AN44:=aa (zA hQ44 (zD z44.heap.size));clear hb44 hA44 hQ44;refine ro hK (uh SY _ (uh E44).j) fun _=>?_
      clear hK K;refine r3 8 fun K hK=>?_
      have hb45:Below z44.heap.size z44 (z44.alloc (.cells cm 34)):=(zC _ _).alloc (zD _) _;have hm45:=zF z44 (.cells cm 34);have hbm45:base≤z44.heap.size:=(uh E44).sz;have HBM:=aa hbm45;clear hbm45;have E45:=aa ((uh E44).step JPS hb45);have AN45:=aa (zA ((uh AN44).1.step hb45) (zE (uh AN44).2 hb45.size));have I45:=aa ((uh I44).below hb45 rfl);have M45:=aa hm45;clear hb45 hm45;go_simp;refine ro hK (uh SY _ (uh E45).j) fun _=>?_
      clear hK K;generalize (z44.alloc (.cells cm 34))=z45 at *
      
      refine r3 9 fun K hK=>?_
      have hsz:=(uh AN45).1.len;have hone:=(uh AN45).1.one;rw [if_pos (by rfl)];refine wp_store_row 34 (.tmp 9) (.tmp 26) rfl z44.heap.size cs9.toArray rfl rfl 34 cm (uh M45) (by rw [hsz];exact bf) (by rw [hsz];rfl) hone ?_;have HZ:Hid (Jq (K0 w A #[.int .i64 m1,.int .i64 a1,.int .i64 g1,.bool p1,.bool c1,.bool d1] #[.int .i64 m2,.int .i64 a2,.int .i64 g2,.bool p2,.bool c2,.bool d2]) false base o cs9 (z45.setRow z44.heap.size cs9.toArray) z44.heap.size z43.heap.size z44.heap.size):=aa (by
       have h1:=uh HLO;have h2:=uh HBM;have h3:=uh HBS;skip
       exact Jq.mk9 ((uh E45).j.sw (uh M45) (by omega)) (uh M45) (uh AN45).1 h2 h1 (uh AN45).2)
      refine ro hK (uh SY _ (uh HZ).j) fun _=>?_
      clear hK K;refine dn ?_ _;go_wp2_with fail
      go_meet;exact ⟨_,_,_,cs9,rfl,uh HZ⟩
     ·have hb44:Below z43.heap.size z43 (z43.alloc (.cells cm 34)):=(zC _ _).alloc (zD _) _;have hm44:=zF z43 (.cells cm 34);have hbm44:base≤z43.heap.size:=(uh E43).sz;have HBM:=aa hbm44;clear hbm44;have E44:=aa ((uh E43).step JPS hb44);have I44:=aa ((uh I43).below hb44 rfl);have M44:=aa hm44;clear hb44 hm44;go_simp;refine ro hK (uh SY _ (uh E44).j) fun _=>?_
      clear hK K;generalize (z43.alloc (.cells cm 34))=z44 at *
      
      refine r3 7 fun K hK=>?_
      go_simp;refine (uh CS _ _ z44 (uh I44)).mono ?_;rintro r z45 ⟨cs9,rfl,hA45,hb45⟩;have hQ45:AnQ false z44.heap.size z45.heap.size z45 o cs9:=AnQ.of hA45;have hlo45:base≤z44.heap.size:=(uh E44).sz;have HLO:=aa hlo45;clear hlo45;have E45:=aa ((uh E44).step JPS hb45);have M45:=aa ((hb45.block _ (ge.1 (uh M44)).1).trans (uh M44));have I45:=aa ((uh I44).below hb45 rfl);have AN45:=aa (zA hQ45 (zD z45.heap.size));clear hb45 hA45 hQ45;refine ro hK (uh SY _ (uh E45).j) fun _=>?_
      clear hK K;refine r3 9 fun K hK=>?_
      have hsz:=(uh AN45).1.len;have hone:=(uh AN45).1.one;rw [if_pos (by rfl)];refine wp_store_row 34 (.tmp 9) (.tmp 26) rfl z43.heap.size cs9.toArray rfl rfl 34 cm (uh M45) (by rw [hsz];exact bf) (by rw [hsz];rfl) hone ?_;have HZ:Hid (Jq (K0 w A #[.int .i64 m1,.int .i64 a1,.int .i64 g1,.bool p1,.bool c1,.bool d1] #[.int .i64 m2,.int .i64 a2,.int .i64 g2,.bool p2,.bool c2,.bool d2]) false base o cs9 (z45.setRow z43.heap.size cs9.toArray) z43.heap.size z44.heap.size z45.heap.size):=aa (by
       have h1:=uh HLO;have h2:=uh HBM;have h3:=uh HBS;skip
       exact Jq.mk9 ((uh E45).j.sw (uh M45) (by omega)) (uh M45) (uh AN45).1 h2 h1 (uh AN45).2)
      refine ro hK (uh SY _ (uh HZ).j) fun _=>?_
      clear hK K;refine dn ?_ _;go_wp2_with fail
      go_meet;exact ⟨_,_,_,cs9,rfl,uh HZ⟩
    ·have hb43:Below z42.heap.size z42 (z42.alloc (.cells cm 34)):=(zC _ _).alloc (zD _) _;have hm43:=zF z42 (.cells cm 34);have hbm43:base≤z42.heap.size:=(uh E42).sz;have HBM:=aa hbm43;clear hbm43;have E43:=aa ((uh E42).step JPS hb43);have M43:=aa hm43;clear hb43 hm43;go_simp;refine ro hK (uh SY _ (uh E43).j) fun _=>?_
     clear hK K;generalize (z42.alloc (.cells cm 34))=z43 at *
     
     refine r3 5 fun K hK=>?_
     go_simp;refine (uh CT z43 (uh E43).j.low).mono ?_;rintro r z44 ⟨u44,rfl,hI44,_,hb44⟩;obtain ⟨ua44,uc44,hu44⟩:=hI44.form;rw [hn] at hu44;subst hu44;have E44:=aa ((uh E43).step JPS hb44);have M44:=aa ((hb44.block _ (ge.1 (uh M43)).1).trans (uh M43));have I44:=aa hI44;clear hb44 hI44;refine ro hK (uh SY _ (uh E44).j) fun _=>?_
     clear hK K;refine r3 7 fun K hK=>?_
     go_simp;refine (uh CS _ _ z44 (uh I44)).mono ?_;rintro r z45 ⟨cs9,rfl,hA45,hb45⟩;have hQ45:AnQ false z44.heap.size z45.heap.size z45 o cs9:=AnQ.of hA45;have hlo45:base≤z44.heap.size:=(uh E44).sz;have HLO:=aa hlo45;clear hlo45;have E45:=aa ((uh E44).step JPS hb45);have M45:=aa ((hb45.block _ (ge.1 (uh M44)).1).trans (uh M44));have I45:=aa ((uh I44).below hb45 rfl);have AN45:=aa (zA hQ45 (zD z45.heap.size));clear hb45 hA45 hQ45;refine ro hK (uh SY _ (uh E45).j) fun _=>?_
     clear hK K;refine r3 9 fun K hK=>?_
     have hsz:=(uh AN45).1.len;have hone:=(uh AN45).1.one;rw [if_pos (by rfl)];refine wp_store_row 34 (.tmp 9) (.tmp 26) rfl z42.heap.size cs9.toArray rfl rfl 34 cm (uh M45) (by rw [hsz];exact bf) (by rw [hsz];rfl) hone ?_;have HZ:Hid (Jq (K0 w A #[.int .i64 m1,.int .i64 a1,.int .i64 g1,.bool p1,.bool c1,.bool d1] #[.int .i64 m2,.int .i64 a2,.int .i64 g2,.bool p2,.bool c2,.bool d2]) false base o cs9 (z45.setRow z42.heap.size cs9.toArray) z42.heap.size z44.heap.size z45.heap.size):=aa (by
      have h1:=uh HLO;have h2:=uh HBM;have h3:=uh HBS;skip
      exact Jq.mk9 ((uh E45).j.sw (uh M45) (by omega)) (uh M45) (uh AN45).1 h2 h1 (uh AN45).2)
     refine ro hK (uh SY _ (uh HZ).j) fun _=>?_
     clear hK K;refine dn ?_ _;go_wp2_with fail
     go_meet;exact ⟨_,_,_,cs9,rfl,uh HZ⟩
   ·have hb42:Below z41.heap.size z41 (z41.alloc (.cells cm 34)):=(zC _ _).alloc (zD _) _;have hm42:=zF z41 (.cells cm 34);have hbm42:base≤z41.heap.size:=(uh E41).sz;have HBM:=aa hbm42;clear hbm42;have E42:=aa ((uh E41).step JPS hb42);have M42:=aa hm42;clear hb42 hm42;go_simp;refine ro hK (uh SY _ (uh E42).j) fun _=>?_
    clear hK K;generalize (z41.alloc (.cells cm 34))=z42 at *
    
    refine r3 3 fun K hK=>?_
    go_simp;refine (uh CK2 z42).mono ?_;rintro r z43 ⟨rfl,hb43⟩;have E43:=aa ((uh E42).step JPS hb43);have M43:=aa ((hb43.block _ (ge.1 (uh M42)).1).trans (uh M42));clear hb43;refine ro hK (uh SY _ (uh E43).j) fun _=>?_
    clear hK K;refine r3 5 fun K hK=>?_
    go_simp;refine (uh CT z43 (uh E43).j.low).mono ?_;rintro r z44 ⟨u44,rfl,hI44,_,hb44⟩;obtain ⟨ua44,uc44,hu44⟩:=hI44.form;rw [hn] at hu44;subst hu44;have E44:=aa ((uh E43).step JPS hb44);have M44:=aa ((hb44.block _ (ge.1 (uh M43)).1).trans (uh M43));have I44:=aa hI44;clear hb44 hI44;refine ro hK (uh SY _ (uh E44).j) fun _=>?_
    clear hK K;refine r3 7 fun K hK=>?_
    go_simp;refine (uh CS _ _ z44 (uh I44)).mono ?_;rintro r z45 ⟨cs9,rfl,hA45,hb45⟩;have hQ45:AnQ false z44.heap.size z45.heap.size z45 o cs9:=AnQ.of hA45;have hlo45:base≤z44.heap.size:=(uh E44).sz;have HLO:=aa hlo45;clear hlo45;have E45:=aa ((uh E44).step JPS hb45);have M45:=aa ((hb45.block _ (ge.1 (uh M44)).1).trans (uh M44));have I45:=aa ((uh I44).below hb45 rfl);have AN45:=aa (zA hQ45 (zD z45.heap.size));clear hb45 hA45 hQ45;refine ro hK (uh SY _ (uh E45).j) fun _=>?_
    clear hK K;refine r3 9 fun K hK=>?_
    have hsz:=(uh AN45).1.len;have hone:=(uh AN45).1.one;rw [if_pos (by rfl)];refine wp_store_row 34 (.tmp 9) (.tmp 26) rfl z41.heap.size cs9.toArray rfl rfl 34 cm (uh M45) (by rw [hsz];exact bf) (by rw [hsz];rfl) hone ?_;have HZ:Hid (Jq (K0 w A #[.int .i64 m1,.int .i64 a1,.int .i64 g1,.bool p1,.bool c1,.bool d1] #[.int .i64 m2,.int .i64 a2,.int .i64 g2,.bool p2,.bool c2,.bool d2]) false base o cs9 (z45.setRow z41.heap.size cs9.toArray) z41.heap.size z44.heap.size z45.heap.size):=aa (by
     have h1:=uh HLO;have h2:=uh HBM;have h3:=uh HBS;skip
     exact Jq.mk9 ((uh E45).j.sw (uh M45) (by omega)) (uh M45) (uh AN45).1 h2 h1 (uh AN45).2)
    refine ro hK (uh SY _ (uh HZ).j) fun _=>?_
    clear hK K;refine dn ?_ _;go_wp2_with fail
    go_meet;exact ⟨_,_,_,cs9,rfl,uh HZ⟩
  ·have hb41:Below yy.heap.size yy (yy.alloc (.cells cm 34)):=(zC _ _).alloc (zD _) _;have hm41:=zF yy (.cells cm 34);have hbm41:base≤yy.heap.size:=(uh E0).sz;have HBM:=aa hbm41;clear hbm41;have E41:=aa ((uh E0).step JPS hb41);have M41:=aa hm41;clear hb41 hm41;go_simp;refine ro hK (uh SY _ (uh E41).j) fun _=>?_
   clear hK K;generalize (yy.alloc (.cells cm 34))=z41 at *
   
   refine r3 1 fun K hK=>?_
   go_simp;refine (uh CK1 z41).mono ?_;rintro r z42 ⟨rfl,hb42⟩;have E42:=aa ((uh E41).step JPS hb42);have M42:=aa ((hb42.block _ (ge.1 (uh M41)).1).trans (uh M41));clear hb42;refine ro hK (uh SY _ (uh E42).j) fun _=>?_
   clear hK K;refine r3 3 fun K hK=>?_
   go_simp;refine (uh CK2 z42).mono ?_;rintro r z43 ⟨rfl,hb43⟩;have E43:=aa ((uh E42).step JPS hb43);have M43:=aa ((hb43.block _ (ge.1 (uh M42)).1).trans (uh M42));clear hb43;refine ro hK (uh SY _ (uh E43).j) fun _=>?_
   clear hK K;refine r3 5 fun K hK=>?_
   go_simp;refine (uh CT z43 (uh E43).j.low).mono ?_;rintro r z44 ⟨u44,rfl,hI44,_,hb44⟩;obtain ⟨ua44,uc44,hu44⟩:=hI44.form;rw [hn] at hu44;subst hu44;have E44:=aa ((uh E43).step JPS hb44);have M44:=aa ((hb44.block _ (ge.1 (uh M43)).1).trans (uh M43));have I44:=aa hI44;clear hb44 hI44;refine ro hK (uh SY _ (uh E44).j) fun _=>?_
   clear hK K;refine r3 7 fun K hK=>?_
   go_simp;refine (uh CS _ _ z44 (uh I44)).mono ?_;rintro r z45 ⟨cs9,rfl,hA45,hb45⟩;have hQ45:AnQ false z44.heap.size z45.heap.size z45 o cs9:=AnQ.of hA45;have hlo45:base≤z44.heap.size:=(uh E44).sz;have HLO:=aa hlo45;clear hlo45;have E45:=aa ((uh E44).step JPS hb45);have M45:=aa ((hb45.block _ (ge.1 (uh M44)).1).trans (uh M44));have I45:=aa ((uh I44).below hb45 rfl);have AN45:=aa (zA hQ45 (zD z45.heap.size));clear hb45 hA45 hQ45;refine ro hK (uh SY _ (uh E45).j) fun _=>?_
   clear hK K;refine r3 9 fun K hK=>?_
   have hsz:=(uh AN45).1.len;have hone:=(uh AN45).1.one;rw [if_pos (by rfl)];refine wp_store_row 34 (.tmp 9) (.tmp 26) rfl yy.heap.size cs9.toArray rfl rfl 34 cm (uh M45) (by rw [hsz];exact bf) (by rw [hsz];rfl) hone ?_;have HZ:Hid (Jq (K0 w A #[.int .i64 m1,.int .i64 a1,.int .i64 g1,.bool p1,.bool c1,.bool d1] #[.int .i64 m2,.int .i64 a2,.int .i64 g2,.bool p2,.bool c2,.bool d2]) false base o cs9 (z45.setRow yy.heap.size cs9.toArray) yy.heap.size z44.heap.size z45.heap.size):=aa (by
    have h1:=uh HLO;have h2:=uh HBM;have h3:=uh HBS;skip
    exact Jq.mk9 ((uh E45).j.sw (uh M45) (by omega)) (uh M45) (uh AN45).1 h2 h1 (uh AN45).2)
   refine ro hK (uh SY _ (uh HZ).j) fun _=>?_
   clear hK K;refine dn ?_ _;go_wp2_with fail
   go_meet;exact ⟨_,_,_,cs9,rfl,uh HZ⟩
 case rest =>
  obtain ⟨bw,lo1,hi1,cw,hv,hJ⟩:=hcut;subst hv;have hAb2:A+1<base:=by rw [← uh HBS2];exact hAb
  have hwz:=hJ.d.len;have hb1:=hJ.b1;have hb2:=hJ.b2;have hb4:=hJ.b4;have hb5:=hJ.b5;have H4:=aa hJ;clear hJ ES HBS HBS2 SY CS JPS hAb;go_wp2_with fail
  refine (uh CT _ (uh H4).j.low).mono ?_;rintro r w2 ⟨u,rfl,hI,hui,hbb⟩;obtain ⟨ux,uc,hu⟩:=hI.form;rw [hn] at hu;subst hu;have ES:Hid (K2 w A #[.int .i64 m1,.int .i64 a1,.int .i64 g1,.bool p1,.bool c1,.bool d1] #[.int .i64 m2,.int .i64 a2,.int .i64 g2,.bool p2,.bool c2,.bool d2] o bw lo1 hi1 cw (.slice ux n uc) L w2):=aa ⟨(uh H4).j.step hbb,(hbb.block _ hb4).trans (uh H4).m,(uh H4).d.step hbb,hI⟩;have hsw:=hbb.size;have HXB:Hid (∀ g,L≠[]→(Value.slice ux n uc).ownBlock=some g→wc.heap.size≤g∧g<w2.heap.size):=aa fun g h0 hg=>by
   refine ⟨hui g hg,?_⟩;rcases hI with ⟨_,_,_,e0⟩ | ⟨g',cp,cur,e,q1,_⟩
   ·exact absurd e0 h0
   ·rw [e] at hg;cases hg;exact (ge.1 q1).1
  obtain ⟨S1,hS1⟩:∃ S1,wc.heap.size=S1:=⟨_,rfl⟩;rw [hS1] at hb4 hb5 hsw HXB;clear hI hbb H4 hui hS1;generalize base=base1 at *;go_upto_region 5 with fail
  have SY:Hid (∀ z,(K2 w A #[.int .i64 m1,.int .i64 a1,.int .i64 g1,.bool p1,.bool c1,.bool d1] #[.int .i64 m2,.int .i64 a2,.int .i64 g2,.bool p2,.bool c2,.bool d2] o bw lo1 hi1 cw (.slice ux n uc) L) z→(z.cell? ⟨A,0,none⟩=some (.int .i64 m1)∧z.cell? ⟨A,1,none⟩=some (.int .i64 a1)∧z.cell? ⟨A,2,none⟩=some (.int .i64 g1)∧z.cell? ⟨A,3,none⟩=some (.bool p1)∧z.cell? ⟨A,4,none⟩=some (.bool c1)∧z.cell? ⟨A,5,none⟩=some (.bool d1)∧z.cell? ⟨A+1,0,none⟩=some (.int .i64 m2)∧z.cell? ⟨A+1,1,none⟩=some (.int .i64 a2)∧z.cell? ⟨A+1,2,none⟩=some (.int .i64 g2)∧z.cell? ⟨A+1,3,none⟩=some (.bool p2)∧z.cell? ⟨A+1,4,none⟩=some (.bool c2)∧z.cell? ⟨A+1,5,none⟩=some (.bool d2))):=aa fun z hz=>⟨by rw [cr hz.j.a];rfl,by rw [cr hz.j.a];rfl,by rw [cr hz.j.a];rfl,by rw [cr hz.j.a];rfl,by rw [cr hz.j.a];rfl,by rw [cr hz.j.a];rfl,by rw [cr hz.j.b];rfl,by rw [cr hz.j.b];rfl,by rw [cr hz.j.b];rfl,by rw [cr hz.j.b];rfl,by rw [cr hz.j.b];rfl,by rw [cr hz.j.b];rfl⟩
  have JPS:∀ q q',(K2 w A #[.int .i64 m1,.int .i64 a1,.int .i64 g1,.bool p1,.bool c1,.bool d1] #[.int .i64 m2,.int .i64 a2,.int .i64 g2,.bool p2,.bool c2,.bool d2] o bw lo1 hi1 cw (.slice ux n uc) L) q→Below q.heap.size q q'→(K2 w A #[.int .i64 m1,.int .i64 a1,.int .i64 g1,.bool p1,.bool c1,.bool d1] #[.int .i64 m2,.int .i64 a2,.int .i64 g2,.bool p2,.bool c2,.bool d2] o bw lo1 hi1 cw (.slice ux n uc) L) q':=fun _ _ h hb=>h.step hb
  obtain ⟨base,hbase⟩:∃ base,w2.heap.size=base:=⟨_,rfl⟩;have HBS2:=aa hbase;have HBS:Hid (w.heap.size≤base∧bw<base):=aa (by rw [← hbase];exact ⟨(uh ES).low.size,(ge.1 (uh ES).m).1⟩);clear hbase;go_cut [11] (fun v wx=>∃ bb lo hi cs9,v=.pointer (some ⟨bb,0,none⟩)∧Jq (K2 w A #[.int .i64 m1,.int .i64 a1,.int .i64 g1,.bool p1,.bool c1,.bool d1] #[.int .i64 m2,.int .i64 a2,.int .i64 g2,.bool p2,.bool c2,.bool d2] o bw lo1 hi1 cw (.slice ux n uc) L) true base o cs9 wx bb lo hi)
  case first =>
   have E0:Hid (Jp (K2 w A #[.int .i64 m1,.int .i64 a1,.int .i64 g1,.bool p1,.bool c1,.bool d1] #[.int .i64 m2,.int .i64 a2,.int .i64 g2,.bool p2,.bool c2,.bool d2] o bw lo1 hi1 cw (.slice ux n uc) L) base w2.drew):=aa ⟨JPS _ _ (uh ES) (zC _ _).drew,Nat.le_of_eq (uh HBS2).symm⟩;refine wp_region_held_drew (S:=fun z=>z.cell? ⟨A,0,none⟩=some (.int .i64 m1)∧z.cell? ⟨A,1,none⟩=some (.int .i64 a1)∧z.cell? ⟨A,2,none⟩=some (.int .i64 g1)∧z.cell? ⟨A,3,none⟩=some (.bool p1)∧z.cell? ⟨A,4,none⟩=some (.bool c1)∧z.cell? ⟨A,5,none⟩=some (.bool d1)∧z.cell? ⟨A+1,0,none⟩=some (.int .i64 m2)∧z.cell? ⟨A+1,1,none⟩=some (.int .i64 a2)∧z.cell? ⟨A+1,2,none⟩=some (.int .i64 g2)∧z.cell? ⟨A+1,3,none⟩=some (.bool p2)∧z.cell? ⟨A+1,4,none⟩=some (.bool c2)∧z.cell? ⟨A+1,5,none⟩=some (.bool d2)) (by kernel_rfl) (uh SY _ (uh E0).j) (fun hHeld=>?_);generalize w2.drew=yy at E0 hHeld ⊢;refine tq 0 2 4 5 ?_;refine r4 1 7 (fun K hK=>?_) (fun K hK=>?_)
   ·go_simp;refine (uh CK1 yy).mono ?_;rintro r z41 ⟨rfl,hb41⟩;have E41:=aa ((uh E0).step JPS hb41);clear hb41;refine ro hK (uh SY _ (uh E41).j) fun _=>?_
    clear hK K;refine r4 3 7 (fun K hK=>?_) (fun K hK=>?_)
    ·go_simp;refine (uh CK2 z41).mono ?_;rintro r z42 ⟨rfl,hb42⟩;have E42:=aa ((uh E41).step JPS hb42);clear hb42;refine ro hK (uh SY _ (uh E42).j) fun _=>?_
     clear hK K;refine r4 6 7 (fun K hK=>?_) (fun K hK=>?_)
     ·go_simp;refine (uh CI _ _ z42 (uh E42).j.x (uh E42).j.low).mono ?_;rintro r z43 ⟨cs9,rfl,hA43,hb43⟩;have hQ43:AnQ true z42.heap.size z43.heap.size z43 o cs9:=AnQ.of hA43;have hlo43:base≤z42.heap.size:=(uh E42).sz;have HLO:=aa hlo43;clear hlo43;have E43:=aa ((uh E42).step JPS hb43);have AN43:=aa (zA hQ43 (zD z43.heap.size));clear hb43 hA43 hQ43;refine ro hK (uh SY _ (uh E43).j) fun _=>?_
      clear hK K;refine r3 7 fun K hK=>?_
      have hb44:Below z43.heap.size z43 (z43.alloc (.cells cm 34)):=(zC _ _).alloc (zD _) _;have hm44:=zF z43 (.cells cm 34);have hbm44:base≤z43.heap.size:=(uh E43).sz;have HBM:=aa hbm44;clear hbm44;have E44:=aa ((uh E43).step JPS hb44);have AN44:=aa (zA ((uh AN43).1.step hb44) (zE (uh AN43).2 hb44.size));have M44:=aa hm44;clear hb44 hm44;go_simp;refine ro hK (uh SY _ (uh E44).j) fun _=>?_
      clear hK K;generalize (z43.alloc (.cells cm 34))=z44 at *
      
      refine r3 8 fun K hK=>?_
      have hsz:=(uh AN44).1.len;have hone:=(uh AN44).1.one;rw [if_pos (by rfl)];refine wp_store_row 34 (.tmp 11) (.tmp 35) rfl z43.heap.size cs9.toArray rfl rfl 34 cm (uh M44) (by rw [hsz];exact bf) (by rw [hsz];rfl) hone ?_;have HZ:Hid (Jq (K2 w A #[.int .i64 m1,.int .i64 a1,.int .i64 g1,.bool p1,.bool c1,.bool d1] #[.int .i64 m2,.int .i64 a2,.int .i64 g2,.bool p2,.bool c2,.bool d2] o bw lo1 hi1 cw (.slice ux n uc) L) true base o cs9 (z44.setRow z43.heap.size cs9.toArray) z43.heap.size z42.heap.size z43.heap.size):=aa (by
       have h1:=uh HLO;have h2:=uh HBM;have h3:=uh HBS;skip
       exact Jq.mk9 ((uh E44).j.sw (uh M44) ⟨by omega,by omega⟩) (uh M44) (uh AN44).1 h2 h1 (uh AN44).2)
      refine ro hK (uh SY _ (uh HZ).j) fun _=>?_
      clear hK K;refine dn ?_ _;go_wp2_with fail
      go_meet;exact ⟨_,_,_,cs9,rfl,uh HZ⟩
     ·have hb43:Below z42.heap.size z42 (z42.alloc (.cells cm 34)):=(zC _ _).alloc (zD _) _;have hm43:=zF z42 (.cells cm 34);have hbm43:base≤z42.heap.size:=(uh E42).sz;have HBM:=aa hbm43;clear hbm43;have E43:=aa ((uh E42).step JPS hb43);have M43:=aa hm43;clear hb43 hm43;go_simp;refine ro hK (uh SY _ (uh E43).j) fun _=>?_
      clear hK K;generalize (z42.alloc (.cells cm 34))=z43 at *
      
      refine r3 6 fun K hK=>?_
      go_simp;refine (uh CI _ _ z43 (uh E43).j.x (uh E43).j.low).mono ?_;rintro r z44 ⟨cs9,rfl,hA44,hb44⟩;have hQ44:AnQ true z43.heap.size z44.heap.size z44 o cs9:=AnQ.of hA44;have hlo44:base≤z43.heap.size:=(uh E43).sz;have HLO:=aa hlo44;clear hlo44;have E44:=aa ((uh E43).step JPS hb44);have M44:=aa ((hb44.block _ (ge.1 (uh M43)).1).trans (uh M43));have AN44:=aa (zA hQ44 (zD z44.heap.size));clear hb44 hA44 hQ44;refine ro hK (uh SY _ (uh E44).j) fun _=>?_
      clear hK K;refine r3 8 fun K hK=>?_
      have hsz:=(uh AN44).1.len;have hone:=(uh AN44).1.one;rw [if_pos (by rfl)];refine wp_store_row 34 (.tmp 11) (.tmp 35) rfl z42.heap.size cs9.toArray rfl rfl 34 cm (uh M44) (by rw [hsz];exact bf) (by rw [hsz];rfl) hone ?_;have HZ:Hid (Jq (K2 w A #[.int .i64 m1,.int .i64 a1,.int .i64 g1,.bool p1,.bool c1,.bool d1] #[.int .i64 m2,.int .i64 a2,.int .i64 g2,.bool p2,.bool c2,.bool d2] o bw lo1 hi1 cw (.slice ux n uc) L) true base o cs9 (z44.setRow z42.heap.size cs9.toArray) z42.heap.size z43.heap.size z44.heap.size):=aa (by
       have h1:=uh HLO;have h2:=uh HBM;have h3:=uh HBS;skip
       exact Jq.mk9 ((uh E44).j.sw (uh M44) ⟨by omega,by omega⟩) (uh M44) (uh AN44).1 h2 h1 (uh AN44).2)
      refine ro hK (uh SY _ (uh HZ).j) fun _=>?_
      clear hK K;refine dn ?_ _;go_wp2_with fail
      go_meet;exact ⟨_,_,_,cs9,rfl,uh HZ⟩
    ·have hb42:Below z41.heap.size z41 (z41.alloc (.cells cm 34)):=(zC _ _).alloc (zD _) _;have hm42:=zF z41 (.cells cm 34);have hbm42:base≤z41.heap.size:=(uh E41).sz;have HBM:=aa hbm42;clear hbm42;have E42:=aa ((uh E41).step JPS hb42);have M42:=aa hm42;clear hb42 hm42;go_simp;refine ro hK (uh SY _ (uh E42).j) fun _=>?_
     clear hK K;generalize (z41.alloc (.cells cm 34))=z42 at *
     
     refine r3 3 fun K hK=>?_
     go_simp;refine (uh CK2 z42).mono ?_;rintro r z43 ⟨rfl,hb43⟩;have E43:=aa ((uh E42).step JPS hb43);have M43:=aa ((hb43.block _ (ge.1 (uh M42)).1).trans (uh M42));clear hb43;refine ro hK (uh SY _ (uh E43).j) fun _=>?_
     clear hK K;refine r3 6 fun K hK=>?_
     go_simp;refine (uh CI _ _ z43 (uh E43).j.x (uh E43).j.low).mono ?_;rintro r z44 ⟨cs9,rfl,hA44,hb44⟩;have hQ44:AnQ true z43.heap.size z44.heap.size z44 o cs9:=AnQ.of hA44;have hlo44:base≤z43.heap.size:=(uh E43).sz;have HLO:=aa hlo44;clear hlo44;have E44:=aa ((uh E43).step JPS hb44);have M44:=aa ((hb44.block _ (ge.1 (uh M43)).1).trans (uh M43));have AN44:=aa (zA hQ44 (zD z44.heap.size));clear hb44 hA44 hQ44;refine ro hK (uh SY _ (uh E44).j) fun _=>?_
     clear hK K;refine r3 8 fun K hK=>?_
     have hsz:=(uh AN44).1.len;have hone:=(uh AN44).1.one;rw [if_pos (by rfl)];refine wp_store_row 34 (.tmp 11) (.tmp 35) rfl z41.heap.size cs9.toArray rfl rfl 34 cm (uh M44) (by rw [hsz];exact bf) (by rw [hsz];rfl) hone ?_;have HZ:Hid (Jq (K2 w A #[.int .i64 m1,.int .i64 a1,.int .i64 g1,.bool p1,.bool c1,.bool d1] #[.int .i64 m2,.int .i64 a2,.int .i64 g2,.bool p2,.bool c2,.bool d2] o bw lo1 hi1 cw (.slice ux n uc) L) true base o cs9 (z44.setRow z41.heap.size cs9.toArray) z41.heap.size z43.heap.size z44.heap.size):=aa (by
      have h1:=uh HLO;have h2:=uh HBM;have h3:=uh HBS;skip
      exact Jq.mk9 ((uh E44).j.sw (uh M44) ⟨by omega,by omega⟩) (uh M44) (uh AN44).1 h2 h1 (uh AN44).2)
     refine ro hK (uh SY _ (uh HZ).j) fun _=>?_
     clear hK K;refine dn ?_ _;go_wp2_with fail
     go_meet;exact ⟨_,_,_,cs9,rfl,uh HZ⟩
   ·have hb41:Below yy.heap.size yy (yy.alloc (.cells cm 34)):=(zC _ _).alloc (zD _) _;have hm41:=zF yy (.cells cm 34);have hbm41:base≤yy.heap.size:=(uh E0).sz;have HBM:=aa hbm41;clear hbm41;have E41:=aa ((uh E0).step JPS hb41);have M41:=aa hm41;clear hb41 hm41;go_simp;refine ro hK (uh SY _ (uh E41).j) fun _=>?_
    clear hK K;generalize (yy.alloc (.cells cm 34))=z41 at *
    
    refine r3 1 fun K hK=>?_
    go_simp;refine (uh CK1 z41).mono ?_;rintro r z42 ⟨rfl,hb42⟩;have E42:=aa ((uh E41).step JPS hb42);have M42:=aa ((hb42.block _ (ge.1 (uh M41)).1).trans (uh M41));clear hb42;refine ro hK (uh SY _ (uh E42).j) fun _=>?_
    clear hK K;refine r3 3 fun K hK=>?_
    go_simp;refine (uh CK2 z42).mono ?_;rintro r z43 ⟨rfl,hb43⟩;have E43:=aa ((uh E42).step JPS hb43);have M43:=aa ((hb43.block _ (ge.1 (uh M42)).1).trans (uh M42));clear hb43;refine ro hK (uh SY _ (uh E43).j) fun _=>?_
    clear hK K;refine r3 6 fun K hK=>?_
    go_simp;refine (uh CI _ _ z43 (uh E43).j.x (uh E43).j.low).mono ?_;rintro r z44 ⟨cs9,rfl,hA44,hb44⟩;have hQ44:AnQ true z43.heap.size z44.heap.size z44 o cs9:=AnQ.of hA44;have hlo44:base≤z43.heap.size:=(uh E43).sz;have HLO:=aa hlo44;clear hlo44;have E44:=aa ((uh E43).step JPS hb44);have M44:=aa ((hb44.block _ (ge.1 (uh M43)).1).trans (uh M43));have AN44:=aa (zA hQ44 (zD z44.heap.size));clear hb44 hA44 hQ44;refine ro hK (uh SY _ (uh E44).j) fun _=>?_
    clear hK K;refine r3 8 fun K hK=>?_
    have hsz:=(uh AN44).1.len;have hone:=(uh AN44).1.one;rw [if_pos (by rfl)];refine wp_store_row 34 (.tmp 11) (.tmp 35) rfl yy.heap.size cs9.toArray rfl rfl 34 cm (uh M44) (by rw [hsz];exact bf) (by rw [hsz];rfl) hone ?_;have HZ:Hid (Jq (K2 w A #[.int .i64 m1,.int .i64 a1,.int .i64 g1,.bool p1,.bool c1,.bool d1] #[.int .i64 m2,.int .i64 a2,.int .i64 g2,.bool p2,.bool c2,.bool d2] o bw lo1 hi1 cw (.slice ux n uc) L) true base o cs9 (z44.setRow yy.heap.size cs9.toArray) yy.heap.size z43.heap.size z44.heap.size):=aa (by
     have h1:=uh HLO;have h2:=uh HBM;have h3:=uh HBS;skip
     exact Jq.mk9 ((uh E44).j.sw (uh M44) ⟨by omega,by omega⟩) (uh M44) (uh AN44).1 h2 h1 (uh AN44).2)
    refine ro hK (uh SY _ (uh HZ).j) fun _=>?_
    clear hK K;refine dn ?_ _;go_wp2_with fail
    go_meet;exact ⟨_,_,_,cs9,rfl,uh HZ⟩
  case rest =>
   obtain ⟨bg,lo3,hi3,cg,hv,hJ⟩:=hcut;subst hv;have hgz:=hJ.d.len;have hg1:=hJ.b1;have hg2:=hJ.b2;have hg4:=hJ.b4;have hg5:=hJ.b5;have hbs1:S1≤base:=by rw [← uh HBS2];exact hsw
   rw [uh HBS2] at HXB;obtain ⟨f1,f2,f3,f4⟩:=uh HML _ _ _ _ hJ.d;have HFL:=aa (zA f1 (zA f2 (zA f3 f4)));have H6:=aa hJ;clear hJ ES HBS HBS2 SY JPS HML f1 f2 f3 f4
   go_wp2_with (first
    | (refine wpList_load_row rfl 34 (.tmp 11) rfl bg rfl 34 cg.toArray (0,0) _ (uh H6).m underlying34 rfl (by rw [hgz];exact bf) ?_)
    | (refine wpList_load_row rfl 34 (.tmp 9) rfl bw rfl 34 cw.toArray (0,0) _ (uh H6).j.m underlying34 rfl (by rw [hwz];exact bf) ?_))
   refine (zc (uh H6).d (uh H6).j.d).mono ?_;rintro r w7 ⟨rfl,hb⟩;have H7:=aa (zA ((uh H6).j.step hb) (zA ((hb.block _ hg4).trans (uh H6).m) ((uh H6).d.step hb)));clear hb H6;go_wp2_with fail
   refine (uh CT _ (uh H7).1.low).mono ?_;rintro r w8 ⟨u2,rfl,hI2,_,hb8⟩;obtain ⟨ux2,uc2,hu2⟩:=hI2.form;rw [hn] at hu2;subst hu2;have H8:=aa (zA ((uh H7).1.step hb8) (zA ((hb8.block _ (ge.1 (uh H7).2.1).1).trans (uh H7).2.1) ((uh H7).2.2.step hb8)));have CE:Hid (Calls prog 14 #[.slice ux n uc,.slice ux2 n uc2] w8 fun r w'=>r=.returned (.bool true)∧Below w8.heap.size w8 w'):=aa (by
    exact y_ _ _ L w8 (by omega) (uh H8).1.x hI2)
   clear hb8 hI2 H7;go_wp2_with fail
   refine (uh CE).mono ?_;rintro r w9 ⟨rfl,hb⟩;have H9:=aa (zA ((uh H8).1.step hb) (zA ((hb.block _ (ge.1 (uh H8).2.1).1).trans (uh H8).2.1) ((uh H8).2.2.step hb)));clear hb H8 CE;have CX:=aa (vj (.slice ux n uc) L 1 w9 (by decide) (by omega) (uh H9).1.x);rw [hn] at CX;have HRG:Hid (∀ w',But (Value.slice ux n uc).ownBlock w9 w'→(L=[]→Below w9.heap.size w9 w')→Rg S1 base w9 w'):=aa fun w' h1 h2=>⟨h1.os,h1.tape,h1.output,h1.size,fun b hb hnb=>by
    by_cases h0:L=[]
    ·exact (h2 h0).block b hb
    ·exact h1.block b hb fun e=>hnb (uh HXB b h0 e)⟩
   obtain ⟨kn,hkn⟩:∃ kn:Nat,1+n=kn:=⟨_,rfl⟩;rw [hkn] at CX;have dk:¬ ((kn:Int)<0):=by omega
   clear HXB hkn;go_wp2_with fail
   refine (uh CX).mono ?_;rintro r w10 ⟨rfl,_,hbt,hbl⟩;have hR:=uh HRG w10 hbt hbl;have hbgL:=(ge.1 (uh H9).2.1).1;have hbwL:=(ge.1 (uh H9).1.m).1;have H10:Hid (K0 w A #[.int .i64 m1,.int .i64 a1,.int .i64 g1,.bool p1,.bool c1,.bool d1] #[.int .i64 m2,.int .i64 a2,.int .i64 g2,.bool p2,.bool c2,.bool d2] w10∧w10.heap[bw]?=some (.cells cw.toArray 34)∧AnQ false lo1 hi1 w10 o cw∧w10.heap[bg]?=some (.cells cg.toArray 34)∧AnQ true lo3 hi3 w10 o cg):=aa ⟨(uh H9).1.j.rg hR (by omega) (by omega),(hR.block _ hbwL (fun e=>by omega)).trans (uh H9).1.m,(uh H9).1.d.rg hR (Or.inl (by omega)),(hR.block _ hbgL (fun e=>by omega)).trans (uh H9).2.1,(uh H9).2.2.rg hR (Or.inr (by omega))⟩;clear hR hbt hbl hbgL hbwL HRG CX H9
   go_wp2_with (first
    | (refine jW (by rfl) (.agg cg.toArray) (fun K hk=>wp_load_row 34 (.tmp 11) rfl bg rfl 34 cg.toArray (0,0) _ (uh H10).2.2.2.1 underlying34 rfl (by rw [hgz];exact bf) hk) ?_)
    | (refine jW (by rfl) (.agg cw.toArray) (fun K hk=>wp_load_row 34 (.tmp 9) rfl bw rfl 34 cw.toArray (0,0) _ (uh H10).2.1 underlying34 rfl (by rw [hwz];exact bf) hk) ?_))
   refine (zc (uh H10).2.2.2.2 (uh H10).2.2.1).mono ?_;rintro r w11 ⟨rfl,hb⟩;have H11:Hid (K0 w A #[.int .i64 m1,.int .i64 a1,.int .i64 g1,.bool p1,.bool c1,.bool d1] #[.int .i64 m2,.int .i64 a2,.int .i64 g2,.bool p2,.bool c2,.bool d2] w11∧w11.heap[bw]?=some (.cells cw.toArray 34)∧AnQ false lo1 hi1 w11 o cw∧w11.heap[bg]?=some (.cells cg.toArray 34)∧AnQ true lo3 hi3 w11 o cg):=aa ⟨(uh H10).1.step hb,(hb.block _ (ge.1 (uh H10).2.1).1).trans (uh H10).2.1,(uh H10).2.2.1.step hb,(hb.block _ (ge.1 (uh H10).2.2.2.1).1).trans (uh H10).2.2.2.1,(uh H10).2.2.2.2.step hb⟩;clear hb H10 dk;have CM:=aa (xP (uh H11).2.2.2.2);have CH:=aa fun W (h:MkM o cg W)=>xQ h (uh HFL).1 (uh HFL).2.1 (uh HFL).2.2.1 (uh HFL).2.2.2
   obtain ⟨K,hK⟩:∃ K:Nat,1+2*o.a.F1.length+2*o.a.F2.length+2*o.b.F1.length+2*o.b.F2.length=K:=⟨_,rfl⟩;rw [hK] at CM CH;have dK:¬ ((K:Int)<0):=by omega
   clear hK HFL;go_wp2_with (first | (refine wpList_load_row rfl 34 (.tmp 11) rfl bg rfl 34 cg.toArray (0,0) _ (uh H11).2.2.2.1 underlying34 rfl (by rw [hgz];exact bf) ?_))
   refine (uh CM).mono ?_;rintro r w12 ⟨rfl,hM,hR,hT⟩;have hbwL:=(ge.1 (uh H11).2.1).1;have H12:Hid (K4 w A #[.int .i64 m1,.int .i64 a1,.int .i64 g1,.bool p1,.bool c1,.bool d1] #[.int .i64 m2,.int .i64 a2,.int .i64 g2,.bool p2,.bool c2,.bool d2] o bw lo1 hi1 cw bg cg w12):=aa ⟨(uh H11).1.rg hR (by omega) (by omega),(hR.block _ hbwL (fun e=>by omega)).trans (uh H11).2.1,(uh H11).2.2.1.rg hR (Or.inl (by omega)),(hT bg _ _ (by decide) (uh H11).2.2.2.1).trans (uh H11).2.2.2.1,hM⟩;clear hM hR hT H11 hbwL CM;go_wp2_with (first | (refine wpList_load_row rfl 34 (.tmp 11) rfl bg rfl 34 cg.toArray (0,0) _ (uh H12).g underlying34 rfl (by rw [hgz];exact bf) ?_))
   refine (uh CH _ (uh H12).k).mono ?_;rintro r w13 ⟨rfl,hb⟩;have ES:=aa ((uh H12).step hb);clear hb H12;clear hg1 hg2 hg4 hg5 hbs1 hb1 hb2 hb4 hb5 hsw hAb2;generalize base=base0 at *;go_upto_region 22 with fail
   have SY:Hid (∀ z,(K4 w A #[.int .i64 m1,.int .i64 a1,.int .i64 g1,.bool p1,.bool c1,.bool d1] #[.int .i64 m2,.int .i64 a2,.int .i64 g2,.bool p2,.bool c2,.bool d2] o bw lo1 hi1 cw bg cg) z→(z.cell? ⟨A,0,none⟩=some (.int .i64 m1)∧z.cell? ⟨A,1,none⟩=some (.int .i64 a1)∧z.cell? ⟨A,2,none⟩=some (.int .i64 g1)∧z.cell? ⟨A,3,none⟩=some (.bool p1)∧z.cell? ⟨A,4,none⟩=some (.bool c1)∧z.cell? ⟨A,5,none⟩=some (.bool d1)∧z.cell? ⟨A+1,0,none⟩=some (.int .i64 m2)∧z.cell? ⟨A+1,1,none⟩=some (.int .i64 a2)∧z.cell? ⟨A+1,2,none⟩=some (.int .i64 g2)∧z.cell? ⟨A+1,3,none⟩=some (.bool p2)∧z.cell? ⟨A+1,4,none⟩=some (.bool c2)∧z.cell? ⟨A+1,5,none⟩=some (.bool d2))):=aa fun z hz=>⟨by rw [cr hz.j.a];rfl,by rw [cr hz.j.a];rfl,by rw [cr hz.j.a];rfl,by rw [cr hz.j.a];rfl,by rw [cr hz.j.a];rfl,by rw [cr hz.j.a];rfl,by rw [cr hz.j.b];rfl,by rw [cr hz.j.b];rfl,by rw [cr hz.j.b];rfl,by rw [cr hz.j.b];rfl,by rw [cr hz.j.b];rfl,by rw [cr hz.j.b];rfl⟩
   have JPS:∀ q q',(K4 w A #[.int .i64 m1,.int .i64 a1,.int .i64 g1,.bool p1,.bool c1,.bool d1] #[.int .i64 m2,.int .i64 a2,.int .i64 g2,.bool p2,.bool c2,.bool d2] o bw lo1 hi1 cw bg cg) q→Below q.heap.size q q'→(K4 w A #[.int .i64 m1,.int .i64 a1,.int .i64 g1,.bool p1,.bool c1,.bool d1] #[.int .i64 m2,.int .i64 a2,.int .i64 g2,.bool p2,.bool c2,.bool d2] o bw lo1 hi1 cw bg cg) q':=fun _ _ h hb=>h.step hb
   obtain ⟨base,hbase⟩:∃ base,w13.heap.size=base:=⟨_,rfl⟩;have HBS2:=aa hbase;have HBS:Hid (w.heap.size≤base∧bw<base∧bg<base):=aa (by rw [← hbase];exact ⟨(uh ES).low.size,(ge.1 (uh ES).m).1,(ge.1 (uh ES).g).1⟩);clear hbase;go_cut [15] (fun v wx=>∃ bb lo hi cs9,v=.pointer (some ⟨bb,0,none⟩)∧Jq (K4 w A #[.int .i64 m1,.int .i64 a1,.int .i64 g1,.bool p1,.bool c1,.bool d1] #[.int .i64 m2,.int .i64 a2,.int .i64 g2,.bool p2,.bool c2,.bool d2] o bw lo1 hi1 cw bg cg) true base o cs9 wx bb lo hi)
   case first =>
    have E0:Hid (Jp (K4 w A #[.int .i64 m1,.int .i64 a1,.int .i64 g1,.bool p1,.bool c1,.bool d1] #[.int .i64 m2,.int .i64 a2,.int .i64 g2,.bool p2,.bool c2,.bool d2] o bw lo1 hi1 cw bg cg) base w13.drew):=aa ⟨JPS _ _ (uh ES) (zC _ _).drew,Nat.le_of_eq (uh HBS2).symm⟩;refine wp_region_held_drew (S:=fun z=>z.cell? ⟨A,0,none⟩=some (.int .i64 m1)∧z.cell? ⟨A,1,none⟩=some (.int .i64 a1)∧z.cell? ⟨A,2,none⟩=some (.int .i64 g1)∧z.cell? ⟨A,3,none⟩=some (.bool p1)∧z.cell? ⟨A,4,none⟩=some (.bool c1)∧z.cell? ⟨A,5,none⟩=some (.bool d1)∧z.cell? ⟨A+1,0,none⟩=some (.int .i64 m2)∧z.cell? ⟨A+1,1,none⟩=some (.int .i64 a2)∧z.cell? ⟨A+1,2,none⟩=some (.int .i64 g2)∧z.cell? ⟨A+1,3,none⟩=some (.bool p2)∧z.cell? ⟨A+1,4,none⟩=some (.bool c2)∧z.cell? ⟨A+1,5,none⟩=some (.bool d2)) (by kernel_rfl) (uh SY _ (uh E0).j) (fun hHeld=>?_);generalize w13.drew=yy at E0 hHeld ⊢;refine tq 0 2 4 6 ?_;refine r4 1 8 (fun K hK=>?_) (fun K hK=>?_)
    ·go_simp;refine (uh CK1 yy).mono ?_;rintro r z41 ⟨rfl,hb41⟩;have E41:=aa ((uh E0).step JPS hb41);clear hb41;refine ro hK (uh SY _ (uh E41).j) fun _=>?_
     clear hK K;refine r4 3 8 (fun K hK=>?_) (fun K hK=>?_)
     ·go_simp;refine (uh CK2 z41).mono ?_;rintro r z42 ⟨rfl,hb42⟩;have E42:=aa ((uh E41).step JPS hb42);clear hb42;refine ro hK (uh SY _ (uh E42).j) fun _=>?_
      clear hK K;refine r4 5 8 (fun K hK=>?_) (fun K hK=>?_)
      ·go_simp;refine (uh CT z42 (uh E42).j.low).mono ?_;rintro r z43 ⟨u43,rfl,hI43,_,hb43⟩;obtain ⟨ua43,uc43,hu43⟩:=hI43.form;rw [hn] at hu43;subst hu43;have E43:=aa ((uh E42).step JPS hb43);have I43:=aa hI43;clear hb43 hI43;refine ro hK (uh SY _ (uh E43).j) fun _=>?_
       clear hK K;refine r4 7 8 (fun K hK=>?_) (fun K hK=>?_)
       ·go_simp;refine (uh CI _ _ z43 (uh I43) (uh E43).j.low).mono ?_;rintro r z44 ⟨cs9,rfl,hA44,hb44⟩;have hQ44:AnQ true z43.heap.size z44.heap.size z44 o cs9:=AnQ.of hA44;have hlo44:base≤z43.heap.size:=(uh E43).sz;have HLO:=aa hlo44;clear hlo44;have E44:=aa ((uh E43).step JPS hb44);have I44:=aa ((uh I43).below hb44 rfl);have AN44:=aa (zA hQ44 (zD z44.heap.size));clear hb44 hA44 hQ44;refine ro hK (uh SY _ (uh E44).j) fun _=>?_
        clear hK K;refine r3 8 fun K hK=>?_
        have hb45:Below z44.heap.size z44 (z44.alloc (.cells cm 34)):=(zC _ _).alloc (zD _) _;have hm45:=zF z44 (.cells cm 34);have hbm45:base≤z44.heap.size:=(uh E44).sz;have HBM:=aa hbm45;clear hbm45;have E45:=aa ((uh E44).step JPS hb45);have AN45:=aa (zA ((uh AN44).1.step hb45) (zE (uh AN44).2 hb45.size));have I45:=aa ((uh I44).below hb45 rfl);have M45:=aa hm45;clear hb45 hm45;go_simp;refine ro hK (uh SY _ (uh E45).j) fun _=>?_
        clear hK K;generalize (z44.alloc (.cells cm 34))=z45 at *
        
        refine r3 9 fun K hK=>?_
        have hsz:=(uh AN45).1.len;have hone:=(uh AN45).1.one;rw [if_pos (by rfl)];refine wp_store_row 34 (.tmp 15) (.tmp 74) rfl z44.heap.size cs9.toArray rfl rfl 34 cm (uh M45) (by rw [hsz];exact bf) (by rw [hsz];rfl) hone ?_;have HZ:Hid (Jq (K4 w A #[.int .i64 m1,.int .i64 a1,.int .i64 g1,.bool p1,.bool c1,.bool d1] #[.int .i64 m2,.int .i64 a2,.int .i64 g2,.bool p2,.bool c2,.bool d2] o bw lo1 hi1 cw bg cg) true base o cs9 (z45.setRow z44.heap.size cs9.toArray) z44.heap.size z43.heap.size z44.heap.size):=aa (by
         have h1:=uh HLO;have h2:=uh HBM;have h3:=uh HBS;skip
         exact Jq.mk9 ((uh E45).j.sw (uh M45) ⟨by omega,by omega,by omega⟩) (uh M45) (uh AN45).1 h2 h1 (uh AN45).2)
        refine ro hK (uh SY _ (uh HZ).j) fun _=>?_
        clear hK K;refine dn ?_ _;go_wp2_with fail
        go_meet;exact ⟨_,_,_,cs9,rfl,uh HZ⟩
       ·have hb44:Below z43.heap.size z43 (z43.alloc (.cells cm 34)):=(zC _ _).alloc (zD _) _;have hm44:=zF z43 (.cells cm 34);have hbm44:base≤z43.heap.size:=(uh E43).sz;have HBM:=aa hbm44;clear hbm44;have E44:=aa ((uh E43).step JPS hb44);have I44:=aa ((uh I43).below hb44 rfl);have M44:=aa hm44;clear hb44 hm44;go_simp;refine ro hK (uh SY _ (uh E44).j) fun _=>?_
        clear hK K;generalize (z43.alloc (.cells cm 34))=z44 at *
        
        refine r3 7 fun K hK=>?_
        go_simp;refine (uh CI _ _ z44 (uh I44) (uh E44).j.low).mono ?_;rintro r z45 ⟨cs9,rfl,hA45,hb45⟩;have hQ45:AnQ true z44.heap.size z45.heap.size z45 o cs9:=AnQ.of hA45;have hlo45:base≤z44.heap.size:=(uh E44).sz;have HLO:=aa hlo45;clear hlo45;have E45:=aa ((uh E44).step JPS hb45);have M45:=aa ((hb45.block _ (ge.1 (uh M44)).1).trans (uh M44));have I45:=aa ((uh I44).below hb45 rfl);have AN45:=aa (zA hQ45 (zD z45.heap.size));clear hb45 hA45 hQ45;refine ro hK (uh SY _ (uh E45).j) fun _=>?_
        clear hK K;refine r3 9 fun K hK=>?_
        have hsz:=(uh AN45).1.len;have hone:=(uh AN45).1.one;rw [if_pos (by rfl)];refine wp_store_row 34 (.tmp 15) (.tmp 74) rfl z43.heap.size cs9.toArray rfl rfl 34 cm (uh M45) (by rw [hsz];exact bf) (by rw [hsz];rfl) hone ?_;have HZ:Hid (Jq (K4 w A #[.int .i64 m1,.int .i64 a1,.int .i64 g1,.bool p1,.bool c1,.bool d1] #[.int .i64 m2,.int .i64 a2,.int .i64 g2,.bool p2,.bool c2,.bool d2] o bw lo1 hi1 cw bg cg) true base o cs9 (z45.setRow z43.heap.size cs9.toArray) z43.heap.size z44.heap.size z45.heap.size):=aa (by
         have h1:=uh HLO;have h2:=uh HBM;have h3:=uh HBS;skip
         exact Jq.mk9 ((uh E45).j.sw (uh M45) ⟨by omega,by omega,by omega⟩) (uh M45) (uh AN45).1 h2 h1 (uh AN45).2)
        refine ro hK (uh SY _ (uh HZ).j) fun _=>?_
        clear hK K;refine dn ?_ _;go_wp2_with fail
        go_meet;exact ⟨_,_,_,cs9,rfl,uh HZ⟩
      ·have hb43:Below z42.heap.size z42 (z42.alloc (.cells cm 34)):=(zC _ _).alloc (zD _) _;have hm43:=zF z42 (.cells cm 34);have hbm43:base≤z42.heap.size:=(uh E42).sz;have HBM:=aa hbm43;clear hbm43;have E43:=aa ((uh E42).step JPS hb43);have M43:=aa hm43;clear hb43 hm43;go_simp;refine ro hK (uh SY _ (uh E43).j) fun _=>?_
       clear hK K;generalize (z42.alloc (.cells cm 34))=z43 at *
       
       refine r3 5 fun K hK=>?_
       go_simp;refine (uh CT z43 (uh E43).j.low).mono ?_;rintro r z44 ⟨u44,rfl,hI44,_,hb44⟩;obtain ⟨ua44,uc44,hu44⟩:=hI44.form;rw [hn] at hu44;subst hu44;have E44:=aa ((uh E43).step JPS hb44);have M44:=aa ((hb44.block _ (ge.1 (uh M43)).1).trans (uh M43));have I44:=aa hI44;clear hb44 hI44;refine ro hK (uh SY _ (uh E44).j) fun _=>?_
       clear hK K;refine r3 7 fun K hK=>?_
       go_simp;refine (uh CI _ _ z44 (uh I44) (uh E44).j.low).mono ?_;rintro r z45 ⟨cs9,rfl,hA45,hb45⟩;have hQ45:AnQ true z44.heap.size z45.heap.size z45 o cs9:=AnQ.of hA45;have hlo45:base≤z44.heap.size:=(uh E44).sz;have HLO:=aa hlo45;clear hlo45;have E45:=aa ((uh E44).step JPS hb45);have M45:=aa ((hb45.block _ (ge.1 (uh M44)).1).trans (uh M44));have I45:=aa ((uh I44).below hb45 rfl);have AN45:=aa (zA hQ45 (zD z45.heap.size));clear hb45 hA45 hQ45;refine ro hK (uh SY _ (uh E45).j) fun _=>?_
       clear hK K;refine r3 9 fun K hK=>?_
       have hsz:=(uh AN45).1.len;have hone:=(uh AN45).1.one;rw [if_pos (by rfl)];refine wp_store_row 34 (.tmp 15) (.tmp 74) rfl z42.heap.size cs9.toArray rfl rfl 34 cm (uh M45) (by rw [hsz];exact bf) (by rw [hsz];rfl) hone ?_;have HZ:Hid (Jq (K4 w A #[.int .i64 m1,.int .i64 a1,.int .i64 g1,.bool p1,.bool c1,.bool d1] #[.int .i64 m2,.int .i64 a2,.int .i64 g2,.bool p2,.bool c2,.bool d2] o bw lo1 hi1 cw bg cg) true base o cs9 (z45.setRow z42.heap.size cs9.toArray) z42.heap.size z44.heap.size z45.heap.size):=aa (by
        have h1:=uh HLO;have h2:=uh HBM;have h3:=uh HBS;skip
        exact Jq.mk9 ((uh E45).j.sw (uh M45) ⟨by omega,by omega,by omega⟩) (uh M45) (uh AN45).1 h2 h1 (uh AN45).2)
       refine ro hK (uh SY _ (uh HZ).j) fun _=>?_
       clear hK K;refine dn ?_ _;go_wp2_with fail
       go_meet;exact ⟨_,_,_,cs9,rfl,uh HZ⟩
     ·have hb42:Below z41.heap.size z41 (z41.alloc (.cells cm 34)):=(zC _ _).alloc (zD _) _;have hm42:=zF z41 (.cells cm 34);have hbm42:base≤z41.heap.size:=(uh E41).sz;have HBM:=aa hbm42;clear hbm42;have E42:=aa ((uh E41).step JPS hb42);have M42:=aa hm42;clear hb42 hm42;go_simp;refine ro hK (uh SY _ (uh E42).j) fun _=>?_
      clear hK K;generalize (z41.alloc (.cells cm 34))=z42 at *
      
      refine r3 3 fun K hK=>?_
      go_simp;refine (uh CK2 z42).mono ?_;rintro r z43 ⟨rfl,hb43⟩;have E43:=aa ((uh E42).step JPS hb43);have M43:=aa ((hb43.block _ (ge.1 (uh M42)).1).trans (uh M42));clear hb43;refine ro hK (uh SY _ (uh E43).j) fun _=>?_
      clear hK K;refine r3 5 fun K hK=>?_
      go_simp;refine (uh CT z43 (uh E43).j.low).mono ?_;rintro r z44 ⟨u44,rfl,hI44,_,hb44⟩;obtain ⟨ua44,uc44,hu44⟩:=hI44.form;rw [hn] at hu44;subst hu44;have E44:=aa ((uh E43).step JPS hb44);have M44:=aa ((hb44.block _ (ge.1 (uh M43)).1).trans (uh M43));have I44:=aa hI44;clear hb44 hI44;refine ro hK (uh SY _ (uh E44).j) fun _=>?_
      clear hK K;refine r3 7 fun K hK=>?_
      go_simp;refine (uh CI _ _ z44 (uh I44) (uh E44).j.low).mono ?_;rintro r z45 ⟨cs9,rfl,hA45,hb45⟩;have hQ45:AnQ true z44.heap.size z45.heap.size z45 o cs9:=AnQ.of hA45;have hlo45:base≤z44.heap.size:=(uh E44).sz;have HLO:=aa hlo45;clear hlo45;have E45:=aa ((uh E44).step JPS hb45);have M45:=aa ((hb45.block _ (ge.1 (uh M44)).1).trans (uh M44));have I45:=aa ((uh I44).below hb45 rfl);have AN45:=aa (zA hQ45 (zD z45.heap.size));clear hb45 hA45 hQ45;refine ro hK (uh SY _ (uh E45).j) fun _=>?_
      clear hK K;refine r3 9 fun K hK=>?_
      have hsz:=(uh AN45).1.len;have hone:=(uh AN45).1.one;rw [if_pos (by rfl)];refine wp_store_row 34 (.tmp 15) (.tmp 74) rfl z41.heap.size cs9.toArray rfl rfl 34 cm (uh M45) (by rw [hsz];exact bf) (by rw [hsz];rfl) hone ?_;have HZ:Hid (Jq (K4 w A #[.int .i64 m1,.int .i64 a1,.int .i64 g1,.bool p1,.bool c1,.bool d1] #[.int .i64 m2,.int .i64 a2,.int .i64 g2,.bool p2,.bool c2,.bool d2] o bw lo1 hi1 cw bg cg) true base o cs9 (z45.setRow z41.heap.size cs9.toArray) z41.heap.size z44.heap.size z45.heap.size):=aa (by
       have h1:=uh HLO;have h2:=uh HBM;have h3:=uh HBS;skip
       exact Jq.mk9 ((uh E45).j.sw (uh M45) ⟨by omega,by omega,by omega⟩) (uh M45) (uh AN45).1 h2 h1 (uh AN45).2)
      refine ro hK (uh SY _ (uh HZ).j) fun _=>?_
      clear hK K;refine dn ?_ _;go_wp2_with fail
      go_meet;exact ⟨_,_,_,cs9,rfl,uh HZ⟩
    ·have hb41:Below yy.heap.size yy (yy.alloc (.cells cm 34)):=(zC _ _).alloc (zD _) _;have hm41:=zF yy (.cells cm 34);have hbm41:base≤yy.heap.size:=(uh E0).sz;have HBM:=aa hbm41;clear hbm41;have E41:=aa ((uh E0).step JPS hb41);have M41:=aa hm41;clear hb41 hm41;go_simp;refine ro hK (uh SY _ (uh E41).j) fun _=>?_
     clear hK K;generalize (yy.alloc (.cells cm 34))=z41 at *
     
     refine r3 1 fun K hK=>?_
     go_simp;refine (uh CK1 z41).mono ?_;rintro r z42 ⟨rfl,hb42⟩;have E42:=aa ((uh E41).step JPS hb42);have M42:=aa ((hb42.block _ (ge.1 (uh M41)).1).trans (uh M41));clear hb42;refine ro hK (uh SY _ (uh E42).j) fun _=>?_
     clear hK K;refine r3 3 fun K hK=>?_
     go_simp;refine (uh CK2 z42).mono ?_;rintro r z43 ⟨rfl,hb43⟩;have E43:=aa ((uh E42).step JPS hb43);have M43:=aa ((hb43.block _ (ge.1 (uh M42)).1).trans (uh M42));clear hb43;refine ro hK (uh SY _ (uh E43).j) fun _=>?_
     clear hK K;refine r3 5 fun K hK=>?_
     go_simp;refine (uh CT z43 (uh E43).j.low).mono ?_;rintro r z44 ⟨u44,rfl,hI44,_,hb44⟩;obtain ⟨ua44,uc44,hu44⟩:=hI44.form;rw [hn] at hu44;subst hu44;have E44:=aa ((uh E43).step JPS hb44);have M44:=aa ((hb44.block _ (ge.1 (uh M43)).1).trans (uh M43));have I44:=aa hI44;clear hb44 hI44;refine ro hK (uh SY _ (uh E44).j) fun _=>?_
     clear hK K;refine r3 7 fun K hK=>?_
     go_simp;refine (uh CI _ _ z44 (uh I44) (uh E44).j.low).mono ?_;rintro r z45 ⟨cs9,rfl,hA45,hb45⟩;have hQ45:AnQ true z44.heap.size z45.heap.size z45 o cs9:=AnQ.of hA45;have hlo45:base≤z44.heap.size:=(uh E44).sz;have HLO:=aa hlo45;clear hlo45;have E45:=aa ((uh E44).step JPS hb45);have M45:=aa ((hb45.block _ (ge.1 (uh M44)).1).trans (uh M44));have I45:=aa ((uh I44).below hb45 rfl);have AN45:=aa (zA hQ45 (zD z45.heap.size));clear hb45 hA45 hQ45;refine ro hK (uh SY _ (uh E45).j) fun _=>?_
     clear hK K;refine r3 9 fun K hK=>?_
     have hsz:=(uh AN45).1.len;have hone:=(uh AN45).1.one;rw [if_pos (by rfl)];refine wp_store_row 34 (.tmp 15) (.tmp 74) rfl yy.heap.size cs9.toArray rfl rfl 34 cm (uh M45) (by rw [hsz];exact bf) (by rw [hsz];rfl) hone ?_;have HZ:Hid (Jq (K4 w A #[.int .i64 m1,.int .i64 a1,.int .i64 g1,.bool p1,.bool c1,.bool d1] #[.int .i64 m2,.int .i64 a2,.int .i64 g2,.bool p2,.bool c2,.bool d2] o bw lo1 hi1 cw bg cg) true base o cs9 (z45.setRow yy.heap.size cs9.toArray) yy.heap.size z44.heap.size z45.heap.size):=aa (by
      have h1:=uh HLO;have h2:=uh HBM;have h3:=uh HBS;skip
      exact Jq.mk9 ((uh E45).j.sw (uh M45) ⟨by omega,by omega,by omega⟩) (uh M45) (uh AN45).1 h2 h1 (uh AN45).2)
     refine ro hK (uh SY _ (uh HZ).j) fun _=>?_
     clear hK K;refine dn ?_ _;go_wp2_with fail
     go_meet;exact ⟨_,_,_,cs9,rfl,uh HZ⟩
   case rest =>
    obtain ⟨bh,lo5,hi5,ch,hv,hJ⟩:=hcut;subst hv;have hhz:=hJ.d.len;have H16:=aa hJ;clear hJ ES HBS HBS2 SY JPS
    go_wp2_with (first
     | (refine wpList_load_row rfl 34 (.tmp 15) rfl bh rfl 34 ch.toArray (0,0) _ (uh H16).m underlying34 rfl (by rw [hhz];exact bf) ?_)
     | (refine wpList_load_row rfl 34 (.tmp 9) rfl bw rfl 34 cw.toArray (0,0) _ (uh H16).j.m underlying34 rfl (by rw [hwz];exact bf) ?_))
    refine (zc (uh H16).d (uh H16).j.d).mono ?_;rintro r w17 ⟨rfl,hb⟩;have H17:=aa ((uh H16).j.step hb);clear hb H16;go_wp2_with (first | (refine wpList_load_row rfl 34 (.tmp 11) rfl bg rfl 34 cg.toArray (0,0) _ (uh H17).g underlying34 rfl (by rw [hgz];exact bf) ?_))
    refine (uh CH _ (uh H17).k).mono ?_;rintro r w18 ⟨rfl,hb⟩;have H18:=aa ((uh H17).step hb).low;clear hb H17;go_wp2
    go_ret
    exact ⟨rfl,uh H18⟩
end Go.Proofs.YtjdgiimfpkideaaGreatDoor
