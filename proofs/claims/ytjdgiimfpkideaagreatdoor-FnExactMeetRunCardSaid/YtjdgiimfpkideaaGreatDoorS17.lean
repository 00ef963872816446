/- WkJ BadOpt -/
import Derived.Test.YtjdgiimfpkideaaGreatDoorS16
import Derived.Test.YtjdgiimfpkideaaGreatDoorS10
set_option maxHeartbeats 4000000
set_option maxRecDepth 100000
namespace Go.Proofs.YtjdgiimfpkideaaGreatDoor
open Go.RowKit Go.Proofs.Tryz
theorem wI (w:World):Calls prog 118 #[.string mO] w fun e w'=>e=.returned (.iface 159 (.agg #[.int .i64 5]))∧w'=w:=by
 go_enter func118,ntmps118
 go_wp2
 go_ret
 exact ⟨rfl,rfl⟩
theorem yw (w:World):Calls prog 118 #[.string pT] w fun e w'=>e=.returned (.iface 159 (.agg #[.int .i64 0]))∧w'=w:=by
 go_enter func118,ntmps118
 go_wp2
 go_ret
 exact ⟨rfl,rfl⟩
theorem wJ (w:World):Calls prog 118 #[.string mP] w fun e w'=>e=.returned (.iface 172 (.agg #[]))∧w'=w:=by
 go_enter func118,ntmps118
 go_wp2
 go_ret
 exact ⟨rfl,rfl⟩
theorem wK (w:World):Calls prog 118 #[.string mQ] w fun e w'=>e=.returned (.iface 173 (.agg #[]))∧w'=w:=by
 go_enter func118,ntmps118
 go_wp2
 go_ret
 exact ⟨rfl,rfl⟩
theorem yx (w:World):Calls prog 118 #[.string pY] w fun e w'=>e=.returned (.iface 174 (.agg #[]))∧w'=w:=by
 go_enter func118,ntmps118
 go_wp2
 go_ret
 exact ⟨rfl,rfl⟩
theorem yz (w:World):Calls prog 118 #[.string pZ] w fun e w'=>e=.returned (.iface 174 (.agg #[]))∧w'=w:=by
 go_enter func118,ntmps118
 go_wp2
 go_ret
 exact ⟨rfl,rfl⟩
theorem yA (w:World):Calls prog 118 #[.string p5] w fun e w'=>e=.returned (.iface 175 (.agg #[]))∧w'=w:=by
 go_enter func118,ntmps118
 go_wp2
 go_ret
 exact ⟨rfl,rfl⟩
theorem yB (w:World):Calls prog 118 #[.string p6] w fun e w'=>e=.returned (.iface 176 (.agg #[]))∧w'=w:=by
 go_enter func118,ntmps118
 go_wp2
 go_ret
 exact ⟨rfl,rfl⟩
theorem yC (w:World):Calls prog 118 #[.string p7] w fun e w'=>e=.returned (.iface 177 (.agg #[]))∧w'=w:=by
 go_enter func118,ntmps118
 go_wp2
 go_ret
 exact ⟨rfl,rfl⟩
theorem wL (w:World):Calls prog 118 #[.string bP] w fun e w'=>e=.returned (.iface 161 (.agg #[.string bP]))∧w'=w:=by
 go_enter func118,ntmps118
 go_wp2
 go_ret
 exact ⟨rfl,rfl⟩
theorem wM (w:World):Calls prog 118 #[.string bQ] w fun e w'=>e=.returned (.iface 161 (.agg #[.string bQ]))∧w'=w:=by
 go_enter func118,ntmps118
 go_wp2
 go_ret
 exact ⟨rfl,rfl⟩
theorem wN (w:World):Calls prog 118 #[.string bL] w fun e w'=>e=.returned (.iface 161 (.agg #[.string bL]))∧w'=w:=by
 go_enter func118,ntmps118
 go_wp2
 go_ret
 exact ⟨rfl,rfl⟩
theorem yD (w:World):Calls prog 118 #[.string dz] w fun e w'=>e=.returned (.iface 161 (.agg #[.string dz]))∧w'=w:=by
 go_enter func118,ntmps118
 go_wp2
 go_ret
 exact ⟨rfl,rfl⟩
section
variable {w0 w1:World} {B:Nat} {c:Cx} {s:St} {v1 v2 vs vt:Value} {q:World}
theorem wO (h:Lay 129 w0 w1 B c s v1 v2 vs vt q) :
  Calls prog 241 #[.agg #[.string bP],.pointer (some ⟨B,0,none⟩)] q fun r q'=>r=.returned (.tuple #[])∧Lay 129 w0 w1 B c s v1 v2 vs vt q':=by
 have hb:Below q.heap.size q (q.alloc (.cells #[.string bP] 161)):=(zC _ _).alloc (zD _) _;have HL:=aa (h.step hb);clear h hb;go_enter func241,ntmps241
 go_wp2
 exact Great.bodyPost_end0 rfl rfl ⟨rfl,uh HL⟩
theorem wP (h:Lay 129 w0 w1 B c s v1 v2 vs vt q) :
  Calls prog 241 #[.agg #[.string bQ],.pointer (some ⟨B,0,none⟩)] q fun r q'=>r=.returned (.tuple #[])∧Lay 129 w0 w1 B c s v1 v2 vs vt q':=by
 have hb:Below q.heap.size q (q.alloc (.cells #[.string bQ] 161)):=(zC _ _).alloc (zD _) _;have HL:=aa (h.step hb);clear h hb;go_enter func241,ntmps241
 go_wp2
 exact Great.bodyPost_end0 rfl rfl ⟨rfl,uh HL⟩
theorem wQ (h:Lay 129 w0 w1 B c s v1 v2 vs vt q) :
  Calls prog 241 #[.agg #[.string bL],.pointer (some ⟨B,0,none⟩)] q fun r q'=>r=.returned (.tuple #[])∧Lay 129 w0 w1 B c { s with e:=gD s.e } v1 v2 vs vt q':=by
 have hb:Below q.heap.size q (q.alloc (.cells #[.string bL] 161)):=(zC _ _).alloc (zD _) _;have HL:=aa (h.step hb);clear h hb;go_enter func241,ntmps241
 go_wp2_with fail
 refine (wF (uh HL)).mono ?_;rintro r q1 ⟨rfl,h1⟩;go_wp2
 exact Great.bodyPost_end0 rfl rfl ⟨rfl,h1⟩
def jp (now:Int) (b:Bool) (e:En):En:={ e with du:=if gj e.st=true then (if (b || e.du == -1)=true then now+3 else e.du) else -1 }
theorem wR (h:Lay 129 w0 w1 B c s v1 v2 vs vt q) (b:Bool) (hn:0≤c.now∧c.now≤1000000000) :
  Calls prog 119 #[.pointer (some ⟨B,0,none⟩),.bool b] q fun r q'=>r=.returned (.tuple #[])∧Lay 129 w0 w1 B c { s with e:=jp c.now b s.e } v1 v2 vs vt q':=by
 have c12:=h.cell (i:=12) rfl;have c14:=h.cell (i:=14) rfl;have f14:=h.frz 14;have c30:=h.cell (i:=30) rfl;have C:=aa (jS B s.e.st q c12);obtain ⟨h3,h4⟩:=hn;have HL:=aa h;clear h c12;cases hr:gj s.e.st
 ·have HE:jp c.now b s.e={ s.e with du:=-1 }:=by unfold jp;rw [hr];rfl
  rw [hr] at C;go_enter func119,ntmps119
  go_wp2_with fail
  refine (uh C).mono ?_;rintro r ws ⟨rfl,hws⟩;replace hws:=hws.symm;subst hws;go_wp2
  refine Great.bodyPost_end0 rfl rfl ⟨rfl,?_⟩;rw [HE];exact (uh HL).setRaw 14 (.int .i64 (-1)) { s.e with du:=-1 } rfl
 ·rw [hr] at C;cases b
  ·by_cases hd:s.e.du=-1
   ·have HE:jp c.now false s.e={ s.e with du:=c.now+3 }:=by unfold jp;rw [hr,hd];rfl
    go_enter func119,ntmps119
    go_wp2_with fail
    refine (uh C).mono ?_;rintro r ws ⟨rfl,hws⟩;replace hws:=hws.symm;subst hws;go_wp2
    refine Great.bodyPost_end0 rfl rfl ⟨rfl,?_⟩;rw [HE];exact (uh HL).setRaw 14 (.int .i64 (c.now+3)) { s.e with du:=c.now+3 } rfl
   ·have hd2:(s.e.du == -1)=false:=beq_eq_false_iff_ne.2 hd;have HE:jp c.now false s.e=s.e:=by unfold jp;rw [hr,hd2];rfl
    go_enter func119,ntmps119
    go_wp2_with fail
    refine (uh C).mono ?_;rintro r ws ⟨rfl,hws⟩;replace hws:=hws.symm;subst hws;go_wp2
    refine Great.bodyPost_end0 rfl rfl ⟨rfl,?_⟩;rw [HE];exact uh HL
  ·have HE:jp c.now true s.e={ s.e with du:=c.now+3 }:=by unfold jp;rw [hr];rfl
   go_enter func119,ntmps119
   go_wp2_with fail
   refine (uh C).mono ?_;rintro r ws ⟨rfl,hws⟩;replace hws:=hws.symm;subst hws;go_wp2
   refine Great.bodyPost_end0 rfl rfl ⟨rfl,?_⟩;rw [HE];exact (uh HL).setRaw 14 (.int .i64 (c.now+3)) { s.e with du:=c.now+3 } rfl
end
theorem qt (w:World) (Pb B:Nat) (v:Value) (k:UInt8) (hP:w.heap[Pb]?=some (.cells #[.int .i64 0,.int .i64 1,.int .i64 3] 248)) (hB:B<w.heap.size) (hv:Rest w B v [k]) :
  Calls prog 161 #[.agg #[.slice (some ⟨Pb,0,none⟩) 3 3,.int .i64 2,.int .i64 20,.int .i64 3],v] w fun e w'=>e=.returned (.tuple #[.agg dc,cS 3])∧Below w.heap.size w w':=by
 have hPw:Pb<w.heap.size:=(ge.1 hP).1;obtain ⟨off,cap,hvf,hcap,hl⟩:=hv;subst hvf;have HL:=aa hl;have HP:=aa hP;have HC:=aa hcap;clear hl hP hcap;go_enter func161,ntmps161
 go_wp2_with fail
 refine (fC _).mono ?_;rintro e w1 ⟨rfl,hw1⟩
 obtain ⟨hs,q0,q1,q2,q3,hb1⟩:=m8 w (.cells #[.slice (some ⟨Pb,0,none⟩) 3 3,.int .i64 2,.int .i64 20,.int .i64 3] 217) (.cells dc 219)
  (.cells #[.slice (some ⟨Pb,0,none⟩) 3 3,.int .i64 2,.int .i64 20,.int .i64 3,.slice (some ⟨B,off,none⟩) 1 cap,.slice none 0 0,.int .i64 0,.string ⟨#[]⟩] 219) (.map cW 4)
 unfold dc at hs q0 q1 q2 q3 hb1;rw [← hw1] at hs q0 q1 q2 q3 hb1;have hra:Ra w w1 (w.heap.size+1+1+1) Pb (w.heap.size+1) #[.int .i64 0,.int .i64 1,.int .i64 3] dc:=⟨q3,(hb1.block Pb hPw).trans (uh HP),q1,hb1⟩;have hrd:Rdg w1 (w.heap.size+1+1) (w.heap.size+1+1+1+1) B (.slice (some ⟨Pb,0,none⟩) 3 3) 2 20 3 [k] [] 0 ⟨#[]⟩ :=
  ⟨_,_,q2,⟨off,cap,rfl,uh HC,(uh HL).same (hb1.block B hB)⟩,⟨rfl,Or.inl ⟨rfl,rfl⟩⟩⟩
 obtain ⟨c0,c1,c2,c3⟩:=qr q0;have HRA:=aa hra;have HRD:=aa hrd;have l0:=e_ w1 (w.heap.size+1+1+1) cW 4 0 0 (eE 211) hra.hm rfl;have k0:=dA hra.hp 0 _ rfl;clear hra hrd hw1 q0 q1 q2 q3 HL HP HC;go_wp2_with fail
 refine wp_loop_rounds 4 ?_;rw [rounds_succ];go_wp2_with fail
 refine (gn _ _ B _ 2 20 3 [k] [] 0 ⟨#[]⟩ w1 (by omega) (by omega) (by omega) (by omega) (by simp) (uh HRD)).mono ?_;rintro e w2 ⟨hof,⟨hn,_⟩ | ⟨c,r',hc,rfl,hrd⟩⟩
 ·cases hn
 obtain ⟨rfl,rfl⟩:=List.cons.inj hc;have hra:=(uh HRA).off hof (by omega) (by omega) (by omega) (by omega) (by omega) (by omega) (by omega) (by omega);have hs2:=hof.size;have l1:=e_ w2 (w.heap.size+1+1+1) cW 4 1 1 (eE 212) hra.hm rfl;have k1:=dA hra.hp 1 _ rfl;clear HRA HRD hc l0 k0 c0 c1 c2 c3 hb1;have HRA:=aa hra;have HRD:=aa hrd;clear hra hrd hof;go_wp2_with fail
 rw [rounds_succ];go_wp2_with fail
 have C:=aa (m7 _ _ B _ 2 20 3 [] _ 0 ⟨#[]⟩ w2 (by simp) (uh HRD));refine (uh C).mono ?_;rintro e w3 ⟨rfl,hnr⟩;have hra:=(uh HRA).off (hnr.off (N:=w.heap.size+1+1+1+1) (by omega)) (by omega) (by omega) (by omega) (by omega) (by omega) (by omega) (by omega) (by omega);have hE:=hra.he;unfold dc at hE;have hfin:=hra.below;obtain ⟨e0,e1,e2,e3,e4,e5,e6,e7,ef⟩:=j_ hE;have f0:=ef 0;have f1:=ef 1;have f2:=ef 2;have f3:=ef 3;have f4:=ef 4;have f5:=ef 5;have f6:=ef 6;have f7:=ef 7;have FIN:=aa (ie hE);unfold lO at FIN;clear HRA HRD hnr hra ef hE l1 k1 C;unfold cS;go_wp2
 refine bodyPost_ret (v:=.tuple #[.agg dc,cS 3]) (by simp [results,results161,asAddr,uh FIN,dc,cS]) rfl ⟨rfl,?_⟩;exact go (E:=w.heap.size+1) hfin (Nat.le_succ _) _ _ _ _ _ _ _ _
theorem qu (w:World) (Pb B:Nat) (v:Value) (k n:UInt8) (r:List UInt8) (hP:w.heap[Pb]?=some (.cells #[.int .i64 0,.int .i64 1,.int .i64 3] 248)) (hB:B<w.heap.size) (hv:Rest w B v (k :: n :: r)) (hg:oL 2 20 n.toNat r=true) :
  Calls prog 161 #[.agg #[.slice (some ⟨Pb,0,none⟩) 3 3,.int .i64 2,.int .i64 20,.int .i64 3],v] w fun e w'=>e=.returned (.tuple #[.agg dc,cS 3])∧Below w.heap.size w w':=by
 have hPw:Pb<w.heap.size:=(ge.1 hP).1;obtain ⟨off,cap,hvf,hcap,hl⟩:=hv;subst hvf;have HL:=aa hl;have HP:=aa hP;have HC:=aa hcap;clear hl hP hcap;go_enter func161,ntmps161
 go_wp2_with fail
 refine (fC _).mono ?_;rintro e w1 ⟨rfl,hw1⟩
 obtain ⟨hs,q0,q1,q2,q3,hb1⟩:=m8 w (.cells #[.slice (some ⟨Pb,0,none⟩) 3 3,.int .i64 2,.int .i64 20,.int .i64 3] 217) (.cells dc 219)
  (.cells #[.slice (some ⟨Pb,0,none⟩) 3 3,.int .i64 2,.int .i64 20,.int .i64 3,.slice (some ⟨B,off,none⟩) (r.length+1+1) cap,.slice none 0 0,.int .i64 0,.string ⟨#[]⟩] 219) (.map cW 4)
 unfold dc at hs q0 q1 q2 q3 hb1;rw [← hw1] at hs q0 q1 q2 q3 hb1;have hra:Ra w w1 (w.heap.size+1+1+1) Pb (w.heap.size+1) #[.int .i64 0,.int .i64 1,.int .i64 3] dc:=⟨q3,(hb1.block Pb hPw).trans (uh HP),q1,hb1⟩;have hrd:Rdg w1 (w.heap.size+1+1) (w.heap.size+1+1+1+1) B (.slice (some ⟨Pb,0,none⟩) 3 3) 2 20 3 (k :: n :: r) [] 0 ⟨#[]⟩ :=
  ⟨_,_,q2,⟨off,cap,rfl,uh HC,(uh HL).same (hb1.block B hB)⟩,⟨rfl,Or.inl ⟨rfl,rfl⟩⟩⟩
 obtain ⟨c0,c1,c2,c3⟩:=qr q0;have HRA:=aa hra;have HRD:=aa hrd;have l0:=e_ w1 (w.heap.size+1+1+1) cW 4 0 0 (eE 211) hra.hm rfl;have k0:=dA hra.hp 0 _ rfl;clear hra hrd hw1 q0 q1 q2 q3 HL HP HC;go_wp2_with fail
 refine wp_loop_rounds 4 ?_;rw [rounds_succ];go_wp2_with fail
 refine (gn _ _ B _ 2 20 3 (k :: n :: r) [] 0 ⟨#[]⟩ w1 (by omega) (by omega) (by omega) (by omega) (by simp) (uh HRD)).mono ?_;rintro e w2 ⟨hof,⟨hn,_⟩ | ⟨c,r',hc,rfl,hrd⟩⟩
 ·cases hn
 obtain ⟨rfl,rfl⟩:=List.cons.inj hc;have hra:=(uh HRA).off hof (by omega) (by omega) (by omega) (by omega) (by omega) (by omega) (by omega) (by omega);have hs2:=hof.size;have l1:=e_ w2 (w.heap.size+1+1+1) cW 4 1 1 (eE 212) hra.hm rfl;have k1:=dA hra.hp 1 _ rfl;clear HRA HRD hc l0 k0 c0 c1 c2 c3 hb1;have HRA:=aa hra;have HRD:=aa hrd;clear hra hrd hof;go_wp2_with fail
 rw [rounds_succ];go_wp2_with fail
 have C:=aa (lN _ _ B _ 2 20 3 (n :: r) _ 0 ⟨#[]⟩ w2 (by omega) (by omega) (by omega) (by omega) (by omega) (by simp) (uh HRD));rw [show ax (List.take 1 (n :: r))=n.toNat by simp [ax],show List.drop 1 (n :: r)=r from rfl,hg,if_pos rfl] at C;refine (uh C).mono ?_;rintro e w3 ⟨rfl,hnr,_⟩;have hra:=(uh HRA).off (hnr.off (N:=w.heap.size+1+1+1+1) (by omega)) (by omega) (by omega) (by omega) (by omega) (by omega) (by omega) (by omega) (by omega);have hE:=hra.he;unfold dc at hE;have hfin:=hra.below;obtain ⟨e0,e1,e2,e3,e4,e5,e6,e7,ef⟩:=j_ hE;have f0:=ef 0;have f1:=ef 1;have f2:=ef 2;have f3:=ef 3;have f4:=ef 4;have f5:=ef 5;have f6:=ef 6;have f7:=ef 7;have FIN:=aa (ie hE);unfold lO at FIN;clear HRA HRD hnr hra ef hE l1 k1 C;unfold cS;go_wp2
 refine bodyPost_ret (v:=.tuple #[.agg dc,cS 3]) (by simp [results,results161,asAddr,uh FIN,dc,cS]) rfl ⟨rfl,?_⟩;exact go (E:=w.heap.size+1) hfin (Nat.le_succ _) _ _ _ _ _ _ _ _
end Go.Proofs.YtjdgiimfpkideaaGreatDoor
