/- ReadOpt BadOpt CfSp -/
import Derived.Test.YtjdgiimfpkideaaGreatDoorS12
set_option maxHeartbeats 8000000
set_option maxRecDepth 100000
namespace Go.Proofs.YtjdgiimfpkideaaGreatDoor
open Go.RowKit Go.Proofs.Tryz
variable {w W q:World} {n Pb E:Nat} {ks:Array Value} {T:TypeId} {x:Cf}
theorem qq{base base':Nat}{e:TypeId}{size:Nat}{v:Value}{xs:List Value}(h:w.ownsRow base e size v n xs)(hb:base'<=base):w.ownsRow base' e size v n xs :=
 ⟨h.1,h.2.imp id fun⟨g,cap,cur,h1,h2,h3⟩=>⟨g,cap,cur,h1,zE hb h2,h3⟩⟩
structure Ra(w W:World)(M Pb E:Nat)(ks zs:Array Value):Prop where
 hm:W.heap[M]?=some (.map cW 4)
 hp:W.heap[Pb]?=some (.cells ks 248)
 he:W.heap[E]?=some (.cells zs 219)
 below:Below w w W
theorem Ra.off{W':World}{M N R:Nat}{zs:Array Value}(h:Ra w W M Pb E ks zs)(ho:Off N R W W')(h1:M<N)(h2:Pb<N)(h3:E<N)(n1:M≠R)(n2:Pb≠R)(n3:E≠R)(hw:w.heap.size<=N)(hr:w.heap.size<=R):Ra w W' M Pb E ks zs :=
 ⟨(ho.block M h1 n1).trans h.hm,(ho.block Pb h2 n2).trans h.hp,(ho.block E h3 n3).trans h.he,h.below.trans (ho.below hw hr)⟩
theorem dA(h:w.heap[Pb]?=some (.cells ks T))(i:Nat)(x:Value)(hx:ks[i]?=some x):w.cell? (Pb,i)=some x:=by
 rw[cr h];exact hx
theorem m8(w:World)(a b c d:Obj):((((w.alloc a).alloc b).alloc c).alloc d).heap.size=w.heap.size+1+1+1+1/\((((w.alloc a).alloc b).alloc c).alloc d).heap[w.heap.size]?=some a/\((((w.alloc a).alloc b).alloc c).alloc d).heap[w.heap.size+1]?=some b /\
  ((((w.alloc a).alloc b).alloc c).alloc d).heap[w.heap.size+1+1]?=some c/\((((w.alloc a).alloc b).alloc c).alloc d).heap[w.heap.size+1+1+1]?=some d/\Below w w ((((w.alloc a).alloc b).alloc c).alloc d):=by
 have s1:(w.alloc a).heap.size=w.heap.size+1:=by simp
 have s2:((w.alloc a).alloc b).heap.size=w.heap.size+1+1:=by simp
 have s3:(((w.alloc a).alloc b).alloc c).heap.size=w.heap.size+1+1+1:=by simp
 have e1:=zF w a;have e2:=zF (w.alloc a) b;have e3:=zF ((w.alloc a).alloc b) c;have e4:=zF (((w.alloc a).alloc b).alloc c) d;rw[s1]at e2;rw[s2]at e3;rw[s3]at e4;refine⟨by simp,?_,?_,?_,e4,((((zC _ _).alloc (zD _) _).alloc (by omega) _).alloc (by omega) _).alloc (by omega) _⟩
 .rw [zG _ _ _ (by omega),zG _ _ _ (by omega),zG _ _ _ (by omega)];exact e1
 .rw [zG _ _ _ (by omega),zG _ _ _ (by omega)];exact e2
 .rw [zG _ _ _ (by omega)];exact e3
theorem qr{B:Nat}{x0 x1 x2 x3:Value}(h:w.heap[B]?=some (.cells #[x0,x1,x2,x3] T)):w.cell? (B,0)=some x0/\w.cell? (B,1)=some x1/\w.cell? (B,2)=some x2/\w.cell? (B,3)=some x3 :=
 ⟨cv h,cv h,cv h,cv h⟩
def dc:Array Value:=#[(),(0:Int),(0:Int),(0:Int),(),(),(0:Int),.string ⟨#[]⟩]
def lO(W:World)(E:Nat)(x0 x1 x2 x3 x4 x5 x6 x7:Value):World :=
 (((((((W.setCell (E,0) x0).setCell (E,1) x1).setCell (E,2) x2).setCell (E,3) x3).setCell (E,4) x4).setCell (E,5) x5).setCell (E,6) x6).setCell (E,7) x7
theorem xq:(prog.info? 219).map (·.size)=some 8:=by kernel_rfl
theorem ie{z0 z1 z2 z3 z4 z5 z6 z7:Value}(h:W.heap[E]?=some (.cells #[z0,z1,z2,z3,z4,z5,z6,z7] 219))(x0 x1 x2 x3 x4 x5 x6 x7:Value):(loadVar 219 (E,0)).run prog (lO W E x0 x1 x2 x3 x4 x5 x6 x7)=.ok (.agg #[x0,x1,x2,x3,x4,x5,x6,x7]) (lO W E x0 x1 x2 x3 x4 x5 x6 x7):=by
 have h0:(W.setCell (E,0) x0).heap[E]?=some (.cells #[x0,z1,z2,z3,z4,z5,z6,z7] 219):=by rw[zH _ _ 0 _ _ _ h];rfl
 have h1:((W.setCell (E,0) x0).setCell (E,1) x1).heap[E]?=some (.cells #[x0,x1,z2,z3,z4,z5,z6,z7] 219):=by rw[zH _ _ 1 _ _ _ h0];rfl
 have h2:(((W.setCell (E,0) x0).setCell (E,1) x1).setCell (E,2) x2).heap[E]?=some (.cells #[x0,x1,x2,z3,z4,z5,z6,z7] 219):=by rw[zH _ _ 2 _ _ _ h1];rfl
 have h3:((((W.setCell (E,0) x0).setCell (E,1) x1).setCell (E,2) x2).setCell (E,3) x3).heap[E]?=some (.cells #[x0,x1,x2,x3,z4,z5,z6,z7] 219):=by rw[zH _ _ 3 _ _ _ h2];rfl
 have h4:(((((W.setCell (E,0) x0).setCell (E,1) x1).setCell (E,2) x2).setCell (E,3) x3).setCell (E,4) x4).heap[E]?=some (.cells #[x0,x1,x2,x3,x4,z5,z6,z7] 219):=by rw[zH _ _ 4 _ _ _ h3];rfl
 have h5:((((((W.setCell (E,0) x0).setCell (E,1) x1).setCell (E,2) x2).setCell (E,3) x3).setCell (E,4) x4).setCell (E,5) x5).heap[E]?=some (.cells #[x0,x1,x2,x3,x4,x5,z6,z7] 219):=by rw[zH _ _ 5 _ _ _ h4];rfl
 have h6:(((((((W.setCell (E,0) x0).setCell (E,1) x1).setCell (E,2) x2).setCell (E,3) x3).setCell (E,4) x4).setCell (E,5) x5).setCell (E,6) x6).heap[E]?=some (.cells #[x0,x1,x2,x3,x4,x5,x6,z7] 219):=by rw[zH _ _ 6 _ _ _ h5];rfl
 have h7:((((((((W.setCell (E,0) x0).setCell (E,1) x1).setCell (E,2) x2).setCell (E,3) x3).setCell (E,4) x4).setCell (E,5) x5).setCell (E,6) x6).setCell (E,7) x7).heap[E]?=some (.cells #[x0,x1,x2,x3,x4,x5,x6,x7] 219):=by rw[zH _ _ 7 _ _ _ h6];rfl
 exact run_loadVar_row (P:=prog) _ _ 219 219 #[x0,x1,x2,x3,x4,x5,x6,x7] (0,0) _ h7 underlying219 rfl xq
theorem ju(W:World)(E:Nat)(x0 x1 x2 x3 x4 x5 x6 x7:Value)(g:Nat)(hg:g≠E):(lO W E x0 x1 x2 x3 x4 x5 x6 x7).heap[g]?=W.heap[g]?:=by
 unfold lO;rw[zJ _ _ _ g hg,zJ _ _ _ g hg,zJ _ _ _ g hg,zJ _ _ _ g hg,zJ _ _ _ g hg,zJ _ _ _ g hg,zJ _ _ _ g hg,zJ _ _ _ g hg]
theorem go(h:Below n w W)(hE:n<=E)(x0 x1 x2 x3 x4 x5 x6 x7:Value):Below n w (lO W E x0 x1 x2 x3 x4 x5 x6 x7) :=
 (((((((h.setCell (p:=⟨E,0,none⟩) hE _).setCell (p:=⟨E,1,none⟩) hE _).setCell (p:=⟨E,2,none⟩) hE _).setCell (p:=⟨E,3,none⟩) hE _).setCell (p:=⟨E,4,none⟩) hE _).setCell (p:=⟨E,5,none⟩) hE _).setCell (p:=⟨E,6,none⟩) hE _).setCell (p:=⟨E,7,none⟩) hE _
def uY(w w':World)(Pb B:Nat)(k:UInt8)(t:ByteArray)(l:List UInt8)(e:Ending):Prop :=
 ∃off cap sa sc x,e=.returned (.tuple #[.agg #[.slice (some ⟨Pb,0,none⟩) 3 3,.int .i64 2,.int .i64 20,.int .i64 3,.slice (some ⟨B,off,none⟩) l.length cap,.slice sa 1 sc,.int .i64 x,.string t],.nilIface])/\Rest w' B (.slice (some ⟨B,off,none⟩) l.length cap) l/\w'.ownsRow w.heap.size 2 1 (.slice sa 1 sc) 1 [.int .i64 k.toNat]/\Below w.heap.size w w'
theorem qs(w:World)(Pb B:Nat)(v:Value)(k n:UInt8)(r:List UInt8)(hP:w.heap[Pb]?=some (.cells #[.int .i64 0,.int .i64 1,.int .i64 3] 248))(hB:B<w.heap.size)(hv:Rest w B v (k::n::r))(hg:oL 2 20 n.toNat r=false):Calls prog 161 #[.agg #[.slice (some ⟨Pb,0,none⟩) 3 3,.int .i64 2,.int .i64 20,.int .i64 3],v] w fun e w'=>uY w w' Pb B k (co (r.take (n.toNat-2))) (r.drop (n.toNat-2)) e:=by
 have hPw:Pb<w.heap.size:=(ge.1 hP).1;obtain⟨off,cap,hvf,hcap,hl⟩:=hv;subst hvf;have HL:=aa hl;have HP:=aa hP;have HC:=aa hcap;clear hl hP hcap;go_enter func161,ntmps161
 go_wp2_with fail
 refine(fC _).mono ?_;rintro e w1⟨rfl,hw1⟩
 obtain⟨hs,q0,q1,q2,q3,hb1⟩:=m8 w (.cells #[.slice (some (Pb,0)) 3 3,(2:Int),(20:Int),(3:Int)] 217) (.cells dc 219)
  (.cells #[.slice (some (Pb,0)) 3 3,(2:Int),(20:Int),(3:Int),.slice (some (B,off)) (r.length+1+1) cap,(),(0:Int),.string ⟨#[]⟩] 219) (.map cW 4)
 unfold dc at hs q0 q1 q2 q3 hb1;rw[<- hw1]at hs q0 q1 q2 q3 hb1;have hra:Ra w w1 (w.heap.size+1+1+1) Pb (w.heap.size+1) #[(0:Int),(1:Int),(3:Int)] dc:=⟨q3,(hb1.block Pb hPw).trans HP.out,q1,hb1⟩;have hrd:Rdg w1 (w.heap.size+1+1) (w.heap.size+1+1+1+1) B (.slice (some (Pb,0)) 3 3) 2 20 3 (k::n::r) [] 0 ⟨#[]⟩ :=
  ⟨_,_,q2,⟨off,cap,rfl,uh HC,HL.out.same (hb1.block B hB)⟩,⟨rfl,Or.inl ⟨rfl,rfl⟩⟩⟩
 obtain⟨c0,c1,c2,c3⟩:=qr q0;have HRA:=aa hra;have HRD:=aa hrd;have l0:=e_ w1 (w.heap.size+1+1+1) cW 4 0 0 (eE 211) hra.hm rfl;have k0:=dA hra.hp 0 _ rfl;clear hra hrd hw1 q0 q1 q2 q3 HL HP HC;go_wp2_with fail
 refine wp_loop_rounds 4 ?_;rw[rounds_succ];go_wp2_with fail
 refine(gn _ _ B _ 2 20 3 (k::n::r) [] 0 ⟨#[]⟩ w1 (by omega) (by omega) (by omega) (by omega) (by simp) HRD.out).mono ?_;rintro e w2⟨hof,⟨hn,_⟩ |⟨c,r',hc,rfl,hrd⟩⟩
 .cases hn
 obtain⟨rfl,rfl⟩:=List.cons.inj hc;have hra:=HRA.out.off hof (by omega) (by omega) (by omega) (by omega) (by omega) (by omega) (by omega) (by omega);have hs2:=hof.size;have l1:=e_ w2 (w.heap.size+1+1+1) cW 4 1 1 (eE 212) hra.hm rfl;have k1:=dA hra.hp 1 _ rfl;clear HRA HRD hc l0 k0 c0 c1 c2 c3 hb1;have HRA:=aa hra;have HRD:=aa hrd;clear hra hrd hof;go_wp2_with fail
 rw[rounds_succ];go_wp2_with fail
 have C:=aa (lN _ _ B _ 2 20 3 (n::r) _ 0 ⟨#[]⟩ w2 (by omega) (by omega) (by omega) (by omega) (by omega) (by simp) HRD.out);rw[show da (List.take 1 (n::r))=n.toNat by simp[da],show List.drop 1 (n::r)=r from rfl,hg,if_neg (by decide)]at C;refine C.out.mono ?_;rintro e w3⟨rfl,hnr,hrd⟩;have hra:=HRA.out.off (hnr.off (N:=w.heap.size+1+1+1+1) (by omega)) (by omega) (by omega) (by omega) (by omega) (by omega) (by omega) (by omega) (by omega);have hs3:=hnr.size;have l3:=e_ w3 (w.heap.size+1+1+1) cW 4 3 3 (eE 214) hra.hm rfl;have k2:=dA hra.hp 2 _ rfl;clear HRA HRD C l1 k1;have HRA:=aa hra;have HRD:=aa hrd;clear hra hrd hnr;go_wp2_with fail
 rw[rounds_succ];go_wp2_with fail
 obtain⟨g1,g2,g3⟩:2<=n.toNat/\n.toNat<=22/\n.toNat-2<=r.length:=by
  have:=of_decide_eq_false hg
  omega
 have hrd:=uh HRD;rw[show((n.toNat:Nat):Int)-2=((n.toNat-2:Nat):Int)by omega]at hrd;refine(sN _ _ B _ 2 20 3 r _ (n.toNat-2) ⟨#[]⟩ w3 (by omega) (by omega) (by omega) g3 hrd).mono ?_;rintro e w4⟨rfl,hnr,hrd2⟩;have hra:=HRA.out.off (hnr.off (N:=w.heap.size+1+1+1+1) (by omega)) (by omega) (by omega) (by omega) (by omega) (by omega) (by omega) (by omega) (by omega);obtain⟨v',s,hR,hv,ho⟩:=hrd2;obtain⟨off',cap',hvf,hcap',hl'⟩:=hv;subst hvf;obtain⟨sa,sc,hsf⟩:=af ho;subst hsf;have hE:=hra.he;unfold dc at hE;have hfin:=hra.below;obtain⟨c0,c1,c2,c3,c4,c5,c6,c7,_⟩:=j_ hR;obtain⟨e0,e1,e2,e3,e4,e5,e6,e7,ef⟩:=j_ hE;have f0:=ef 0;have f1:=ef 1;have f2:=ef 2;have f3:=ef 3;have f4:=ef 4;have f5:=ef 5;have f6:=ef 6;have f7:=ef 7;have HL:=aa hl';have HO:=aa ho;have FIN:=aa (ie hE);unfold lO at FIN;clear HRA HRD hrd hnr hra hR hl' ho ef hE l3 k2 hg;go_wp2_with fail
 rw[rounds_succ];go_wp2
 refine bodyPost_ret (v:=.tuple #[.agg #[.slice (some (Pb,0)) 3 3,(2:Int),(20:Int),(3:Int),.slice (some (B,off')) (r.drop (n.toNat-2)).length cap',(sa,1,sc),.int .i64 ((n.toNat-2:Nat):Int),.string (co (r.take (n.toNat-2)))],.nilIface]) (by simp[results,results161,asAddr,uh FIN]) rfl ?_;have hne:B≠w.heap.size+1:=by omega
 refine⟨_,_,_,_,_,rfl,⟨off',cap',rfl,hcap',HL.out.same (ju w4 (w.heap.size+1) _ _ _ _ _ _ _ _ B hne)⟩,?_,go (E:=w.heap.size+1) hfin (Nat.le_succ _) _ _ _ _ _ _ _ _⟩;refine qq (aY HO.out fun g hg _=>ju w4 (w.heap.size+1) _ _ _ _ _ _ _ _ g ?_) (by omega);clear FIN;omega
theorem qt(w:World)(Pb B:Nat)(v:Value)(k:UInt8)(hP:w.heap[Pb]?=some (.cells #[(0:Int),(1:Int),(3:Int)] 248))(hB:B<w.heap.size)(hv:Rest w B v [k]):Calls prog 161 #[.agg #[.slice (some (Pb,0)) 3 3,(2:Int),(20:Int),(3:Int)],v] w fun e w'=>e=.returned (.tuple #[.agg dc,cS 3])/\Below w w w':=by
 have hPw:Pb<w.heap.size:=(ge.1 hP).1;obtain⟨off,cap,hvf,hcap,hl⟩:=hv;subst hvf;have HL:=aa hl;have HP:=aa hP;have HC:=aa hcap;clear hl hP hcap;go_enter func161,ntmps161
 go_wp2_with fail
 refine(fC _).mono ?_;rintro e w1⟨rfl,hw1⟩
 obtain⟨hs,q0,q1,q2,q3,hb1⟩:=m8 w (.cells #[.slice (some (Pb,0)) 3 3,(2:Int),(20:Int),(3:Int)] 217) (.cells dc 219)
  (.cells #[.slice (some (Pb,0)) 3 3,(2:Int),(20:Int),(3:Int),.slice (some (B,off)) 1 cap,(),(0:Int),.string ⟨#[]⟩] 219) (.map cW 4)
 unfold dc at hs q0 q1 q2 q3 hb1;rw[<- hw1]at hs q0 q1 q2 q3 hb1;have hra:Ra w w1 (w.heap.size+1+1+1) Pb (w.heap.size+1) #[(0:Int),(1:Int),(3:Int)] dc:=⟨q3,(hb1.block Pb hPw).trans HP.out,q1,hb1⟩;have hrd:Rdg w1 (w.heap.size+1+1) (w.heap.size+1+1+1+1) B (.slice (some (Pb,0)) 3 3) 2 20 3 [k] [] 0 ⟨#[]⟩ :=
  ⟨_,_,q2,⟨off,cap,rfl,uh HC,HL.out.same (hb1.block B hB)⟩,⟨rfl,Or.inl ⟨rfl,rfl⟩⟩⟩
 obtain⟨c0,c1,c2,c3⟩:=qr q0;have HRA:=aa hra;have HRD:=aa hrd;have l0:=e_ w1 (w.heap.size+1+1+1) cW 4 0 0 (eE 211) hra.hm rfl;have k0:=dA hra.hp 0 _ rfl;clear hra hrd hw1 q0 q1 q2 q3 HL HP HC;go_wp2_with fail
 refine wp_loop_rounds 4 ?_;rw[rounds_succ];go_wp2_with fail
 refine(gn _ _ B _ 2 20 3 [k] [] 0 ⟨#[]⟩ w1 (by omega) (by omega) (by omega) (by omega) (by simp) HRD.out).mono ?_;rintro e w2⟨hof,⟨hn,_⟩ |⟨c,r',hc,rfl,hrd⟩⟩
 .cases hn
 obtain⟨rfl,rfl⟩:=List.cons.inj hc;have hra:=HRA.out.off hof (by omega) (by omega) (by omega) (by omega) (by omega) (by omega) (by omega) (by omega);have hs2:=hof.size;have l1:=e_ w2 (w.heap.size+1+1+1) cW 4 1 1 (eE 212) hra.hm rfl;have k1:=dA hra.hp 1 _ rfl;clear HRA HRD hc l0 k0 c0 c1 c2 c3 hb1;have HRA:=aa hra;have HRD:=aa hrd;clear hra hrd hof;go_wp2_with fail
 rw[rounds_succ];go_wp2_with fail
 have C:=aa (m7 _ _ B _ 2 20 3 [] _ 0 ⟨#[]⟩ w2 (by simp) HRD.out);refine C.out.mono ?_;rintro e w3⟨rfl,hnr⟩;have hra:=HRA.out.off (hnr.off (N:=w.heap.size+1+1+1+1) (by omega)) (by omega) (by omega) (by omega) (by omega) (by omega) (by omega) (by omega) (by omega);have hE:=hra.he;unfold dc at hE;have hfin:=hra.below;obtain⟨e0,e1,e2,e3,e4,e5,e6,e7,ef⟩:=j_ hE;have f0:=ef 0;have f1:=ef 1;have f2:=ef 2;have f3:=ef 3;have f4:=ef 4;have f5:=ef 5;have f6:=ef 6;have f7:=ef 7;have FIN:=aa (ie hE);unfold lO at FIN;clear HRA HRD hnr hra ef hE l1 k1 C;unfold cS;go_wp2
 refine bodyPost_ret (v:=.tuple #[.agg dc,cS 3]) (by simp[results,results161,asAddr,uh FIN,dc,cS]) rfl ⟨rfl,?_⟩;exact go (E:=w.heap.size+1) hfin (Nat.le_succ _) _ _ _ _ _ _ _ _
theorem qu(w:World)(Pb B:Nat)(v:Value)(k n:UInt8)(r:List UInt8)(hP:w.heap[Pb]?=some (.cells #[(0:Int),(1:Int),(3:Int)] 248))(hB:B<w.heap.size)(hv:Rest w B v (k::n::r))(hg:oL 2 20 n.toNat r=true):Calls prog 161 #[.agg #[.slice (some (Pb,0)) 3 3,(2:Int),(20:Int),(3:Int)],v] w fun e w'=>e=.returned (.tuple #[.agg dc,cS 3])/\Below w w w':=by
 have hPw:Pb<w.heap.size:=(ge.1 hP).1;obtain⟨off,cap,hvf,hcap,hl⟩:=hv;subst hvf;have HL:=aa hl;have HP:=aa hP;have HC:=aa hcap;clear hl hP hcap;go_enter func161,ntmps161
 go_wp2_with fail
 refine(fC _).mono ?_;rintro e w1⟨rfl,hw1⟩
 obtain⟨hs,q0,q1,q2,q3,hb1⟩:=m8 w (.cells #[.slice (some (Pb,0)) 3 3,(2:Int),(20:Int),(3:Int)] 217) (.cells dc 219)
  (.cells #[.slice (some (Pb,0)) 3 3,(2:Int),(20:Int),(3:Int),.slice (some (B,off)) (r.length+1+1) cap,(),(0:Int),.string ⟨#[]⟩] 219) (.map cW 4)
 unfold dc at hs q0 q1 q2 q3 hb1;rw[<- hw1]at hs q0 q1 q2 q3 hb1;have hra:Ra w w1 (w.heap.size+1+1+1) Pb (w.heap.size+1) #[(0:Int),(1:Int),(3:Int)] dc:=⟨q3,(hb1.block Pb hPw).trans HP.out,q1,hb1⟩;have hrd:Rdg w1 (w.heap.size+1+1) (w.heap.size+1+1+1+1) B (.slice (some (Pb,0)) 3 3) 2 20 3 (k::n::r) [] 0 ⟨#[]⟩ :=
  ⟨_,_,q2,⟨off,cap,rfl,uh HC,HL.out.same (hb1.block B hB)⟩,⟨rfl,Or.inl ⟨rfl,rfl⟩⟩⟩
 obtain⟨c0,c1,c2,c3⟩:=qr q0;have HRA:=aa hra;have HRD:=aa hrd;have l0:=e_ w1 (w.heap.size+1+1+1) cW 4 0 0 (eE 211) hra.hm rfl;have k0:=dA hra.hp 0 _ rfl;clear hra hrd hw1 q0 q1 q2 q3 HL HP HC;go_wp2_with fail
 refine wp_loop_rounds 4 ?_;rw[rounds_succ];go_wp2_with fail
 refine(gn _ _ B _ 2 20 3 (k::n::r) [] 0 ⟨#[]⟩ w1 (by omega) (by omega) (by omega) (by omega) (by simp) HRD.out).mono ?_;rintro e w2⟨hof,⟨hn,_⟩ |⟨c,r',hc,rfl,hrd⟩⟩
 .cases hn
 obtain⟨rfl,rfl⟩:=List.cons.inj hc;have hra:=HRA.out.off hof (by omega) (by omega) (by omega) (by omega) (by omega) (by omega) (by omega) (by omega);have hs2:=hof.size;have l1:=e_ w2 (w.heap.size+1+1+1) cW 4 1 1 (eE 212) hra.hm rfl;have k1:=dA hra.hp 1 _ rfl;clear HRA HRD hc l0 k0 c0 c1 c2 c3 hb1;have HRA:=aa hra;have HRD:=aa hrd;clear hra hrd hof;go_wp2_with fail
 rw[rounds_succ];go_wp2_with fail
 have C:=aa (lN _ _ B _ 2 20 3 (n::r) _ 0 ⟨#[]⟩ w2 (by omega) (by omega) (by omega) (by omega) (by omega) (by simp) HRD.out);rw[show da (List.take 1 (n::r))=n.toNat by simp[da],show List.drop 1 (n::r)=r from rfl,hg,if_pos rfl]at C;refine C.out.mono ?_;rintro e w3⟨rfl,hnr,_⟩;have hra:=HRA.out.off (hnr.off (N:=w.heap.size+1+1+1+1) (by omega)) (by omega) (by omega) (by omega) (by omega) (by omega) (by omega) (by omega) (by omega);have hE:=hra.he;unfold dc at hE;have hfin:=hra.below;obtain⟨e0,e1,e2,e3,e4,e5,e6,e7,ef⟩:=j_ hE;have f0:=ef 0;have f1:=ef 1;have f2:=ef 2;have f3:=ef 3;have f4:=ef 4;have f5:=ef 5;have f6:=ef 6;have f7:=ef 7;have FIN:=aa (ie hE);unfold lO at FIN;clear HRA HRD hnr hra ef hE l1 k1 C;unfold cS;go_wp2
 refine bodyPost_ret (v:=.tuple #[.agg dc,cS 3]) (by simp[results,results161,asAddr,uh FIN,dc,cS]) rfl ⟨rfl,?_⟩;exact go (E:=w.heap.size+1) hfin (Nat.le_succ _) _ _ _ _ _ _ _ _
structure CfQ(w:World)(x:Cf)(q:World):Prop where
 x:q.heap[w.heap.size]?=some (.cells (dr x) 24)
 r:q.heap[w.heap.size+1]?=some (.cells #[(0:Int),(0:Int),(0:Int),false,false,false] 24)
 b:Below w w q
theorem CfQ.step{q':World}(h:CfQ w x q)(hb:Below q q q'):CfQ w x q' :=
 ⟨(hb.block _ (ge.1 h.x).1).trans h.x,(hb.block _ (ge.1 h.r).1).trans h.r,h.b.trans (hb.mono h.b.size)⟩
theorem CfQ.put{y:Cf}(h:CfQ w x q)(i:Nat)(v:Value)(hy:(dr x).setIfInBounds i v=dr y):CfQ w y (q.setCell (w,i) v) :=
 ⟨by rw[<- hy];exact zH _ _ i _ _ v h.x,(zJ _ _ _ _ (by simp)).trans h.r,h.b.setCell (p:=(w,i)) (zD _) _⟩
theorem sW(x:Cf)(n:Nat):aD 7 x n=x:=by unfold aD;rw[if_neg (by decide),if_neg (by decide),if_neg (by decide),if_neg (by decide)]
theorem sX(x:Cf)(n:Nat):aD 8 x n=x:=by unfold aD;rw[if_neg (by decide),if_neg (by decide),if_neg (by decide),if_neg (by decide)]
theorem n6(x:Cf)(n:Nat):aD 9 x n={x with d:=x.d&&((n:Int) != 2)}:=by unfold aD;rw[if_neg (by decide),if_neg (by decide),if_neg (by decide),if_pos rfl]
theorem qI{k:Int}(h1:k≠1)(h2:k≠2)(h5:k≠5)(h9:k≠9)(x:Cf)(n:Nat):aD k x n=x:=by unfold aD;rw[if_neg h1,if_neg h2,if_neg h5,if_neg h9]
theorem dD(x:Cf):li x x=x:=ite_self _
theorem nd{o:Op.Opt}(h:sw x=true):sw (fN x o)=true:=by
 unfold fN li;split
 .split
  .next h2=>exact h2
  .exact h
 .exact h
theorem gK(h:sw x=true)(F:List Op.Opt):sw (bF x F)=true:=by
 unfold bF;induction F generalizing x with
 | nil=>exact h
 | cons o F ih=>exact ih (nd h)
theorem sY(h:sw x=true):bh 64 300 (x.m:Int)=true/\bh 0 4294967295 (x.a:Int)=true/\bh 0 4294967295 (x.g:Int)=true:=by
 unfold sw aK at h;rw[zK,zK]at h;exact⟨h.1,h.2.1,h.2.2⟩
theorem jz(h:n<4294967296):bh 0 4294967295 (n:Int)=true:=by
 unfold bh;rw[zK];exact⟨decide_eq_true (by omega),decide_eq_true (by omega)⟩
theorem n_(t:ByteArray)(h:t.size=1):(((da t.data.toList:Nat):Int)==2)=(t.toList==[2]):=by
 obtain⟨c,hc⟩:∃c,t.data.toList=[c]:=by
  have:t.data.toList.length=1:=by rw[Array.length_toList];exact h
  exact List.length_eq_one_iff.1 this
 rw[ByteArray.toList_eq,hc];have h4:da [c]=c.toNat:=by simp[da]
 rw[h4];cases hq:((c.toNat:Int)==2)
 .symm
  rw[beq_eq_false_iff_ne];intro e;cases e;cases hq
 .have:c.toNat=2:=by have:=eq_of_beq hq;omega
  have:c=2:=by
   apply UInt8.toNat_inj.1
   exact this
  subst this;rfl
theorem qJ(x:Cf)(v:Value)(F:List Op.Opt)(w:World)(hx:sw x=true)(hr:Op.right F=true)(h:HoldsO w v F):Calls prog 110 #[.agg (dr x),v] w fun e w'=>e=.returned (.agg (dr (bF x F)))/\Below w w w':=by
 have hFl:=Op.right_len hr;have C0:=aa fun W=>dO (x.m:Int) x.a x.g x.p x.c x.d W
 have C1:=aa fun W (hb:Below w w W)=>nA v F W (by unfold maxLen;omega) (h.below hb rfl)
 rw[show aK (x.m:Int) x.a x.g=true from hx]at C0;rw[hr]at C1;have HFO:=aa (Op.right_all hr);have HAT:=aa fun i hi=>h.at i hi
 have HOK:=aa hx;obtain⟨ad,cp,rfl⟩:=h.form;obtain⟨n,hn⟩ := ex F.length;obtain⟨_,hA,hR,hb⟩:=br w (.cells (dr x) 24) (.cells #[(0:Int),(0:Int),(0:Int),false,false,false] 24);have H0:=aa (zA hA (zA hR hb));clear h hr hA hR hb hx;have HTL:Hid (F.take n=F):=aa (List.take_of_length_le (by omega));obtain⟨R,hR⟩ := ex (bF x F);rw[hR];have HR:=aa hR;clear hR;have hx0:bF x (F.take 0)=x:=rfl;rw[hn]at C1|-;go_enter func110,ntmps110
 go_wp2_with fail
 refine(uh C0 _).mono ?_;rintro e w1⟨rfl,hb1⟩;have hA1:=(hb1.block w (by simp;omega)).trans H0.out.1;have hR1:=(hb1.block (w.heap.size+1) (by simp)).trans H0.out.2.1;have hB1:=H0.out.2.2.trans (hb1.mono H0.out.2.2.size);have H1:=aa (zA hA1 (zA hR1 hB1));clear hA1 hR1 hB1 hb1 H0 C0;go_wp2_with fail
 refine(uh C1 _ H1.out.2.2).mono ?_;rintro e w2⟨rfl,hb2⟩;have hI:CfQ w (bF x (F.take 0)) w2:=by
  rw[hx0];exact⟨(hb2.block w (ge.1 H1.out.1).1).trans H1.out.1,(hb2.block (w.heap.size+1) (ge.1 H1.out.2.1).1).trans H1.out.2.1,H1.out.2.2.trans (hb2.mono H1.out.2.2.size)⟩
 have HI:=aa hI;clear hI hb2 H1 C1 hx0;go_wp2_with fail
 go_loopw [5] (fun y wr=>∃i:Nat,i<=n/\y=.int .i64 i/\CfQ w (bF x (F.take i)) wr) (fun y _=>n-(intOf y).toNat)
 case atStart=>exact⟨0,Nat.zero_le _,rfl,uh HI⟩
 case round =>
  obtain⟨i,hi,rfl,hS⟩:=hrel;clear HI;by_cases hlt:i<n
  .have d1:(i:Int)<(n:Int):=by omega
   have d0:(0:Int)<=(i:Int):=by omega
   obtain⟨g,⟨cp2,e2⟩,hgl,k0,k1⟩:=uh HAT i (by omega);cases e2;replace k0:=(hS.b.cell (p:=⟨g,i*2,none⟩) hgl).trans k0;replace k1:=(hS.b.cell (p:=⟨g,i*2+1,none⟩) hgl).trans k1;have HSN:=aa (jw x F i (by omega));have hok:=uh HFO _ (List.getElem_mem (show i<F.length by omega));have hyok:=gK HOK.out (F.take i);generalize F[i]'(by omega)=o at*;obtain⟨kd,dt⟩:=o;dsimp only at k0 k1;generalize bF x (F.take i)=y at*;have hds:dt.size<=20:=by unfold Op.ok at hok;have:=of_decide_eq_true hok;exact this.2.2
   have HS:=aa hS;clear hS HAT HFO hok HOK;go_upto_region 7 with fail
   refine bb (fun q=>CfQ w y q/\q.heap[wr.heap.size]?=some (.cells #[kd,dt] 105))
    ⟨HS.out.step ((zC _ _).alloc (zD _) _),zF wr _⟩ ?_
   rintro q1⟨hS1,hO1⟩;generalize wr.heap.size=N1 at*;obtain⟨c0,c1,_,_⟩:=av hO1;obtain⟨m0,m1,m2,m3,m4,m5⟩:=aJ hS1.x;obtain⟨f0,f1,f2,f3,f4,f5⟩:=eh hS1.x;have HV1:=aa hS1;clear hO1 HS k0 k1 hS1;have C2:=aa fun W=>iz dt 2 W hds (by decide)
   have C4:=aa fun W=>iz dt 4 W hds (by decide)
   have CI:=aa fun y W=>dl y 64 300 W
   go_wp2_with fail
   refine cq (uh C2 _) ?_;go_wp2_with fail
   refine cq (uh C4 _) ?_;clear C2 C4;unfold fN at HSN;dsimp only at HSN;obtain⟨y1,y2,y3⟩:=sY hyok;by_cases hk1:kd=1
   .subst hk1;by_cases hs:dt.size=2
    .rw [if_pos (by rw[hs];rfl)]at HSN;have g2:mE dt 2=da dt.data.toList:=if_pos hs;rw[g2,decide_eq_true hs];unfold aD at HSN;rw[if_pos rfl]at HSN;generalize da dt.data.toList=nx at*;have CI2:=aa fun W=>dl (nx:Int) 64 300 W
     clear CI;unfold li at HSN;cases hw:bh 64 300 (nx:Int)
     .rw [if_neg (by unfold sw aK;rw[hw,Bool.false_and];decide)]at HSN;rw[hw]at CI2;go_wp2_with (first|(go_at_call 48;refine cq (uh CI2 _) ?_))
      go_roundw
      case rel=>exact⟨i+1,by omega,by go_num,by rw[uh HSN];exact uh HV1⟩
      case measure=>simp[intOf];omega
     .rw [if_pos (by unfold sw aK;rw[hw,y2,y3];rfl)]at HSN;rw[hw]at CI2;go_wp2_with (first|(go_at_call 48;refine cq (uh CI2 _) ?_))
      go_roundw
      case rel=>exact⟨i+1,by omega,by go_num,by rw[uh HSN];exact HV1.out.put 0 nx rfl⟩
      case measure=>simp[intOf];omega
    .rw [if_neg (by intro e;have e2:=Option.some.inj (show some 2=some dt.size from e);omega)]at HSN;rw[decide_eq_false hs];go_wp2_with (first|(go_at_call 48;refine cq (uh CI _ _) ?_))
     go_roundw
     case rel=>exact⟨i+1,by omega,by go_num,by rw[uh HSN];exact uh HV1⟩
     case measure=>simp[intOf];omega
   by_cases hk2:kd=2
   .subst hk2;by_cases hs:dt.size=4
    .have hlt4:=eM dt.data.toList (by rw[bC];omega);rw[if_pos (by rw[hs];rfl)]at HSN;have g4:mE dt 4=da dt.data.toList:=if_pos hs;rw[g4,decide_eq_true hs];unfold aD at HSN;rw[if_neg (by decide),if_pos rfl]at HSN;unfold li at HSN;rw[if_pos (by unfold sw aK;dsimp only;rw[y1,jz hlt4,y3];rfl)]at HSN;go_wp2_with (first|(go_at_call 48;refine cq (uh CI _ _) ?_))
     go_roundw
     case rel=>exact⟨i+1,by omega,by go_num,by rw[uh HSN];exact HV1.out.put 1 (.int .i64 (da dt.data.toList:Nat)) rfl⟩
     case measure=>simp[intOf];omega
    .rw [if_neg (by intro e;have e2:=Option.some.inj (show some 4=some dt.size from e);omega)]at HSN;rw[decide_eq_false hs];go_wp2_with (first|(go_at_call 48;refine cq (uh CI _ _) ?_))
     go_roundw
     case rel=>exact⟨i+1,by omega,by go_num,by rw[uh HSN];exact uh HV1⟩
     case measure=>simp[intOf];omega
   by_cases hk5:kd=5
   .subst hk5;by_cases hs:dt.size=4
    .have hlt4:=eM dt.data.toList (by rw[bC];omega);rw[if_pos (by rw[hs];rfl)]at HSN;have g4:mE dt 4=da dt.data.toList:=if_pos hs;rw[g4,decide_eq_true hs];unfold aD at HSN;rw[if_neg (by decide),if_neg (by decide),if_pos rfl]at HSN;unfold li at HSN;rw[if_pos (by unfold sw aK;dsimp only;rw[y1,y2,jz hlt4];rfl)]at HSN;go_wp2_with (first|(go_at_call 48;refine cq (uh CI _ _) ?_))
     go_roundw
     case rel=>exact⟨i+1,by omega,by go_num,by rw[uh HSN];exact HV1.out.put 2 (.int .i64 (da dt.data.toList:Nat)) rfl⟩
     case measure=>simp[intOf];omega
    .rw [if_neg (by intro e;have e2:=Option.some.inj (show some 4=some dt.size from e);omega)]at HSN;rw[decide_eq_false hs];go_wp2_with (first|(go_at_call 48;refine cq (uh CI _ _) ?_))
     go_roundw
     case rel=>exact⟨i+1,by omega,by go_num,by rw[uh HSN];exact uh HV1⟩
     case measure=>simp[intOf];omega
   by_cases hk7:kd=7
   .subst hk7;have HSN2:Hid (bF x (F.take (i+1))=y):=by
     refine aa (HSN.out.trans ?_);rw[sW,dD,ite_self]
    go_wp2_with (first|(go_at_call 48;refine cq (uh CI _ _) ?_))
    go_roundw
    case rel=>exact⟨i+1,by omega,by go_num,by rw[uh HSN2];exact uh HV1⟩
    case measure=>simp[intOf];omega
   by_cases hk8:kd=8
   .subst hk8;have HSN2:Hid (bF x (F.take (i+1))=y):=by
     refine aa (HSN.out.trans ?_);rw[sX,dD,ite_self]
    go_wp2_with (first|(go_at_call 48;refine cq (uh CI _ _) ?_))
    go_roundw
    case rel=>exact⟨i+1,by omega,by go_num,by rw[uh HSN2];exact uh HV1⟩
    case measure=>simp[intOf];omega
   by_cases hk9:kd=9
   .subst hk9;cases h4:(dt.toList==[2])
    .have HSN2:Hid (bF x (F.take (i+1))=y):=by
      refine aa (HSN.out.trans ?_);by_cases hs:dt.size=1
      .rw [if_pos (by rw[hs];rfl)];have hb:(((da dt.data.toList:Nat):Int) != 2)=true:=by unfold bne;rw[n_ dt hs,h4];rfl
       rw[n6,hb,Bool.and_true];exact dD y
      .rw [if_neg (by intro e;have e2:=Option.some.inj (show some 1=some dt.size from e);omega)]
     go_wp2_with (first|(go_at_call 48;refine cq (uh CI _ _) ?_))
     go_roundw
     case rel=>exact⟨i+1,by omega,by go_num,by rw[uh HSN2];exact uh HV1⟩
     case measure=>simp[intOf];omega
    .have hs:dt.size=1:=by
      have:=eq_of_beq h4
      rw[ByteArray.toList_eq]at this;have h5:=congrArg List.length this;rw[Array.length_toList]at h5;exact h5
     rw[if_pos (by rw[hs];rfl)]at HSN;have hb:(((da dt.data.toList:Nat):Int) != 2)=false:=by unfold bne;rw[n_ dt hs,h4];rfl
     rw[n6,hb,Bool.and_false]at HSN;unfold li at HSN;rw[if_pos (by unfold sw aK;dsimp only;rw[y1,y2,y3];rfl)]at HSN;go_wp2_with (first|(go_at_call 48;refine cq (uh CI _ _) ?_))
     go_roundw
     case rel=>exact⟨i+1,by omega,by go_num,by rw[uh HSN];exact HV1.out.put 5 false rfl⟩
     case measure=>simp[intOf];omega
   have e1:(kd==1)=false:=zL hk1;have e2:(kd==2)=false:=zL hk2;have e5:(kd==5)=false:=zL hk5;have e9:(kd==9)=false:=zL hk9;have HSN2:Hid (bF x (F.take (i+1))=y):=by
    refine aa (HSN.out.trans ?_);rw[qI hk1 hk2 hk5 hk9,dD,ite_self]
   go_wp2_with (first|(go_at_call 48;refine cq (uh CI _ _) ?_))
   go_roundw
   case rel=>exact⟨i+1,by omega,by go_num,by rw[uh HSN2];exact uh HV1⟩
   case measure=>simp[intOf];omega
  .have e:i=n:=by omega
   subst e;have d1:¬((i:Int)<(i:Int)):=by omega
   rw[uh HTL,uh HR]at hS;obtain⟨m0,m1,m2,m3,m4,m5⟩:=aJ hS.x;obtain⟨r0,r1,r2,r3,r4,r5⟩:=aJ hS.r;obtain⟨f0,f1,f2,f3,f4,f5⟩:=eh hS.r;have HS:=aa hS;clear hS HAT HFO HTL HR HOK;go_wp2
   exact bodyPost_ret (v:=.agg (dr R)) (by simp[results,results110,asAddr,jU (dP HS.out.r R.m R.a R.g R.p R.c R.d)]) rfl ⟨rfl,nz HS.out.b (by omega) _ _ _ _ _ _⟩
theorem lU(x:Cf)(v:Value)(F:List Op.Opt)(w:World)(hx:sw x=true)(hr:Op.right F=true)(h:HoldsO w v F):Calls prog 111 #[.agg (dr x),v] w fun e w'=>e=.returned (.agg (dr (gI x F)))/\Below w w w':=by
 have hFl:=Op.right_len hr;have C0:=aa fun W=>dO (x.m:Int) x.a x.g x.p x.c x.d W
 have C1:=aa fun W (hb:Below w w W)=>nA v F W (by unfold maxLen;omega) (h.below hb rfl)
 rw[show aK (x.m:Int) x.a x.g=true from hx]at C0;rw[hr]at C1;have HFO:=aa (Op.right_all hr);have HAT:=aa fun i hi=>h.at i hi
 have HOK:=aa hx;obtain⟨ad,cp,rfl⟩:=h.form;obtain⟨n,hn⟩ := ex F.length;obtain⟨_,hA,hR,hb⟩:=br w (.cells (dr x) 24) (.cells #[(0:Int),(0:Int),(0:Int),false,false,false] 24);have H0:=aa (zA hA (zA hR hb));clear h hr hA hR hb hx;have HTL:Hid (F.take n=F):=aa (List.take_of_length_le (by omega));obtain⟨R,hR⟩ := ex (gI x F);rw[hR];have HR:=aa hR;clear hR;have hx0:gI x (F.take 0)=x:=rfl;rw[hn]at C1|-;go_enter func111,ntmps111
 go_wp2_with fail
 refine(uh C0 _).mono ?_;rintro e w1⟨rfl,hb1⟩;have hA1:=(hb1.block w (by simp;omega)).trans H0.out.1;have hR1:=(hb1.block (w.heap.size+1) (by simp)).trans H0.out.2.1;have hB1:=H0.out.2.2.trans (hb1.mono H0.out.2.2.size);have H1:=aa (zA hA1 (zA hR1 hB1));clear hA1 hR1 hB1 hb1 H0 C0;go_wp2_with fail
 refine(uh C1 _ H1.out.2.2).mono ?_;rintro e w2⟨rfl,hb2⟩;have hI:CfQ w (gI x (F.take 0)) w2:=by
  rw[hx0];exact⟨(hb2.block w (ge.1 H1.out.1).1).trans H1.out.1,(hb2.block (w.heap.size+1) (ge.1 H1.out.2.1).1).trans H1.out.2.1,H1.out.2.2.trans (hb2.mono H1.out.2.2.size)⟩
 have HI:=aa hI;clear hI hb2 H1 C1 hx0;go_wp2_with fail
 go_loopw [5] (fun y wr=>∃i:Nat,i<=n/\y=.int .i64 i/\CfQ w (gI x (F.take i)) wr) (fun y _=>n-(intOf y).toNat)
 case atStart=>exact⟨0,Nat.zero_le _,rfl,uh HI⟩
 case round =>
  obtain⟨i,hi,rfl,hS⟩:=hrel;clear HI;by_cases hlt:i<n
  .have d1:(i:Int)<(n:Int):=by omega
   have d0:(0:Int)<=(i:Int):=by omega
   obtain⟨g,⟨cp2,e2⟩,hgl,k0,k1⟩:=uh HAT i (by omega);cases e2;replace k0:=(hS.b.cell (p:=⟨g,i*2,none⟩) hgl).trans k0;replace k1:=(hS.b.cell (p:=⟨g,i*2+1,none⟩) hgl).trans k1;have HSN:=aa (lS x F i (by omega));have hok:=uh HFO _ (List.getElem_mem (show i<F.length by omega));generalize F[i]'(by omega)=o at*;obtain⟨kd,dt⟩:=o;dsimp only at k0 k1;generalize gI x (F.take i)=y at*;have hds:dt.size<=20:=by unfold Op.ok at hok;have:=of_decide_eq_true hok;exact this.2.2
   have HS:=aa hS;clear hS HAT HFO hok HOK;rw[show lQ (Op.Opt.mk kd dt).kind y=lQ kd y from rfl]at HSN;obtain⟨m0,m1,m2,m3,m4,m5⟩:=aJ HS.out.x;obtain⟨f0,f1,f2,f3,f4,f5⟩:=eh HS.out.x;have HV1:=HS;by_cases hk1:kd=1
   .subst hk1;go_wp2_with fail
    go_roundw
    case rel=>exact⟨i+1,by omega,by go_num,by rw[uh HSN];exact HV1.out.put 0 (300:Int) rfl⟩
    case measure=>simp[intOf];omega
   by_cases hk2:kd=2
   .subst hk2;go_wp2_with fail
    go_roundw
    case rel=>exact⟨i+1,by omega,by go_num,by rw[uh HSN];exact HV1.out.put 1 (4294967295:Int) rfl⟩
    case measure=>simp[intOf];omega
   by_cases hk5:kd=5
   .subst hk5;go_wp2_with fail
    go_roundw
    case rel=>exact⟨i+1,by omega,by go_num,by rw[uh HSN];exact HV1.out.put 2 (0:Int) rfl⟩
    case measure=>simp[intOf];omega
   by_cases hk7:kd=7
   .subst hk7;go_wp2_with fail
    go_roundw
    case rel=>exact⟨i+1,by omega,by go_num,by rw[uh HSN];exact HV1.out.put 3 false rfl⟩
    case measure=>simp[intOf];omega
   by_cases hk8:kd=8
   .subst hk8;go_wp2_with fail
    go_roundw
    case rel=>exact⟨i+1,by omega,by go_num,by rw[uh HSN];exact HV1.out.put 4 false rfl⟩
    case measure=>simp[intOf];omega
   by_cases hk9:kd=9
   .subst hk9;go_wp2_with fail
    go_roundw
    case rel=>exact⟨i+1,by omega,by go_num,by rw[uh HSN];exact HV1.out.put 5 false rfl⟩
    case measure=>simp[intOf];omega
   have e1:(kd==1)=false:=zL hk1;have e2:(kd==2)=false:=zL hk2;have e5:(kd==5)=false:=zL hk5;have e7:(kd==7)=false:=zL hk7;have e8:(kd==8)=false:=zL hk8;have e9:(kd==9)=false:=zL hk9;have HSN2:Hid (gI x (F.take (i+1))=y):=by
    refine aa (HSN.out.trans ?_);unfold lQ;rw[if_neg hk1,if_neg hk2,if_neg hk5,if_neg hk7,if_neg hk8,if_neg hk9]
   go_wp2_with fail
   go_roundw
   case rel=>exact⟨i+1,by omega,by go_num,by rw[uh HSN2];exact uh HV1⟩
   case measure=>simp[intOf];omega
  .have e:i=n:=by omega
   subst e;have d1:¬((i:Int)<(i:Int)):=by omega
   rw[uh HTL,uh HR]at hS;obtain⟨m0,m1,m2,m3,m4,m5⟩:=aJ hS.x;obtain⟨r0,r1,r2,r3,r4,r5⟩:=aJ hS.r;obtain⟨f0,f1,f2,f3,f4,f5⟩:=eh hS.r;have HS:=aa hS;clear hS HAT HFO HTL HR HOK;go_wp2
   exact bodyPost_ret (v:=.agg (dr R)) (by simp[results,results111,asAddr,jU (dP HS.out.r R.m R.a R.g R.p R.c R.d)]) rfl ⟨rfl,nz HS.out.b (by omega) _ _ _ _ _ _⟩
end Go.Proofs.YtjdgiimfpkideaaGreatDoor
