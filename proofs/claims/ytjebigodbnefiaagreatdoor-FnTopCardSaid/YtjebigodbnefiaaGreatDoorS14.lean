/- WkA OptRd CfW StrO EndSz -/
import Derived.Test.YtjebigodbnefiaaGreatDoorS09
import Derived.Test.YtjebigodbnefiaaGreatDoorS07
import Derived.Test.YtjebigodbnefiaaGreatDoorS11
set_option maxHeartbeats 8000000
set_option maxRecDepth 100000
namespace Go.Proofs.YtjebigodbnefiaaGreatDoor
open Go.RowKit Go.Proofs.Tryz
section
variable {w0 w1:World} {B:Nat} {c:Cx} {s:St} {v1 v2 vs vt:Value} {q:World}
end
def ar (t:ByteArray):List Op.Opt × Int :=
 if 8000<t.size then ([],2) else
 match Op.acc [] t.data.toList with
 | none=>([],3)
 | some L=>(L,0)
theorem jv {t:ByteArray} (h:8000<t.size):ar t=([],2):=by unfold ar;rw [if_pos h]
theorem ed {t:ByteArray} (h:¬ 8000<t.size) (ha:Op.acc [] t.data.toList=none):ar t=([],3):=by unfold ar;rw [if_neg h,ha]
theorem fb {t:ByteArray} {L:List Op.Opt} (h:¬ 8000<t.size) (ha:Op.acc [] t.data.toList=some L):ar t=(L,0):=by unfold ar;rw [if_neg h,ha]
theorem dd (t:ByteArray):Op.right (ar t).1=true:=by
 by_cases h:8000<t.size
 ·rw [jv h];rfl
 ·cases ha:Op.acc [] t.data.toList with
  | none=>rw [ed h ha];rfl
  | some L=>rw [fb h ha];exact Op.acc_right ha
def xw (w w':World) (o:List Op.Opt × Int) (e:Ending):Prop :=
 ∃ ad cp,e=.returned (.agg #[.slice ad o.1.length cp,.int .i64 o.2])∧w'.ownsRow w.heap.size 27 2 (.slice ad o.1.length cp) o.1.length (aj o.1)∧Below w.heap.size w w'
theorem lP (w:World) (n:Nat):w.ownsRow n 27 2 (.slice none 0 0) 0 (aj []):=⟨rfl,Or.inl ⟨rfl,rfl⟩⟩
theorem uZ:(prog.info? 286).map (·.size)=some 2:=by kernel_rfl
theorem nW {W:World} {E:Nat} {x0 x1:Value} (h:W.heap[E]?=some (.cells #[x0,x1] 286)):(loadVar 286 ⟨E,0,none⟩).run prog W=.ok (.agg #[x0,x1]) W :=
 run_loadVar_row (P:=prog) _ _ 286 286 #[x0,x1] (0,0) _ h underlying286 rfl uZ
theorem nX {W:World} {E:Nat} {z0 z1:Value} {T:TypeId} (h:W.heap[E]?=some (.cells #[z0,z1] T)) (x0 x1:Value) :
  ((W.setCell ⟨E,0,none⟩ x0).setCell ⟨E,1,none⟩ x1).heap[E]?=some (.cells #[x0,x1] T) :=
 zH _ _ 1 _ _ x1 (zH _ _ 0 _ _ x0 h)
theorem qx {w:World} {B:Nat} {x0 x1:Value} {T:TypeId} (h:w.heap[B]?=some (.cells #[x0,x1] T)) :
  w.cell? ⟨B,0,none⟩=some x0∧w.cell? ⟨B,1,none⟩=some x1∧w.frozen? ⟨B,0,none⟩=false∧w.frozen? ⟨B,1,none⟩=false :=
 ⟨by rw [cr h];rfl,by rw [cr h];rfl,aX h _,aX h _⟩
theorem sP {W:World} {base base' E:Nat} {v:Value} {n:Nat} {xs:List Value} (h:W.ownsRow base 27 2 v n xs) (hE:E<base) (hb:base'≤base) (x0 x1:Value) :
  ((W.setCell ⟨E,0,none⟩ x0).setCell ⟨E,1,none⟩ x1).ownsRow base' 27 2 v n xs:=by
 have h2:((W.setCell ⟨E,0,none⟩ x0).setCell ⟨E,1,none⟩ x1).ownsRow base 27 2 v n xs:=aY h fun g hg _=>by
  have hne:g≠E:=by omega
  rw [Below.heap_setCell _ ⟨E,1,none⟩ _ g hne,Below.heap_setCell _ ⟨E,0,none⟩ _ g hne]
 exact ⟨h2.1,h2.2.imp id fun ⟨g,cap,cur,h1,q,h3⟩=>⟨g,cap,cur,h1,zE hb q,h3⟩⟩
theorem dS (t:ByteArray) (w:World) (ht:t.size≤maxLen) (hE:Et w) :
  Calls prog 198 #[.string t] w fun e w'=>xw w w' (ar t) e:=by
 have hlt0:=hE.lt;unfold maxLen at ht;by_cases h8:8000<t.size
 ·have d0:(8000:Int)<(t.size:Int):=by omega
  rw [jv h8];go_enter func198,ntmps198
  go_wp2
  refine bodyPost_ret (v:=.agg #[.slice none 0 0,.int .i64 2]) (by simp [results,results198,go_sem]) rfl ⟨none,0,rfl,lP _ _,(zC _ _).alloc (zD _) _⟩
 ·have d0:¬ ((8000:Int)<(t.size:Int)):=by omega
  have hl8:t.data.toList.length≤8000:=by rw [bC];omega
  obtain ⟨cap,W1,hcv,hcap,hl1,hb1,hlt1⟩:=kT t (w.alloc (.cells #[.slice none 0 0,.int .i64 0] 286));have hW:(w.alloc (.cells #[.slice none 0 0,.int .i64 0] 286)).heap.size=w.heap.size+1:=by simp
  rw [hW] at hcv hb1 hlt1 hl1;have C1:=aa (oN W1 (w.heap.size+1) _ t.data.toList hl8 hlt1 ⟨0,cap,rfl,hcap,hl1⟩);rw [bC] at C1 hcv;have hO1:W1.heap[w.heap.size]?=some (.cells #[.slice none 0 0,.int .i64 0] 286):=(hb1.block w.heap.size (Nat.lt_succ_self _)).trans (zF w _);have hB1:Below w.heap.size w W1:=((zC _ _).alloc (zD _) _).trans (hb1.mono (Nat.le_succ _));have HX:=aa (zA hO1 hB1);have HN:=aa (ed h8);have HS:=aa fun L=>fb (L:=L) h8
  have hl1':w.heap.size+1≤W1.heap.size:=Nat.le_of_lt hlt1;clear hl1 hb1 hO1 hB1 hcap hW hl8;go_enter func198,ntmps198
  go_wp2_with fail
  refine (uh C1).mono ?_;rintro e W2 h;rcases h with ⟨hres,rfl,hb2⟩ | ⟨L,ad,cp,hres,rfl,ho,hb2⟩
  ·have hO2:=(hb2.block w.heap.size (by omega)).trans (uh HX).1;have hB2:Below w.heap.size w W2:=(uh HX).2.trans (hb2.mono (uh HX).2.size);have HR:Hid (ar t=([],3)):=aa (uh HN hres);have hlt2:w.heap.size<W2.heap.size:=(ge.1 hO2).1;have C2:=aa (my 3 W2 (hE.below hB2 hlt0));have HO2:=aa (zA hO2 hB2);clear HX C1 hcv hb2 HN HS hres hO2 hB2 hE;go_wp2_with fail
   refine (uh C2).mono ?_;rintro e w3 ⟨rfl,hb3⟩;have hO3:=(hb3.block w.heap.size hlt2).trans (uh HO2).1;have hB3:=(uh HO2).2.trans (hb3.mono (uh HO2).2.size);obtain ⟨c0,c1,f0,f1⟩:=qx hO3;have FIN:=aa fun x0 x1=>nW (nX hO3 x0 x1)
   clear C2 HO2 hO3 hb3;go_wp2
   refine bodyPost_ret (v:=.agg #[.slice none 0 0,.int .i64 3]) (by simp [results,results198,asAddr,uh FIN]) rfl ?_;rw [uh HR];exact ⟨none,0,rfl,lP _ _,(hB3.setCell (p:=⟨w.heap.size,0,none⟩) (zD _) _).setCell (p:=⟨w.heap.size,1,none⟩) (zD _) _⟩
  ·have hO2:=(hb2.block w.heap.size (by omega)).trans (uh HX).1;have hB2:Below w.heap.size w W2:=(uh HX).2.trans (hb2.mono (uh HX).2.size);have HR:Hid (ar t=(L,0)):=aa (uh HS L hres);have hlt2:w.heap.size<W2.heap.size:=(ge.1 hO2).1;have C2:=aa (pu W2);have HO2:=aa (zA hO2 hB2);have HOW:=aa ho;clear HX C1 hcv HN HS hres hO2 hB2 hE ho hb2;go_wp2_with fail
   refine (uh C2).mono ?_;rintro e w3 ⟨rfl,hb3⟩;have hO3:=(hb3.block w.heap.size hlt2).trans (uh HO2).1;have hB3:=(uh HO2).2.trans (hb3.mono (uh HO2).2.size);have HOW3:=aa (aY (uh HOW) fun p _ hp=>hb3.block p hp);obtain ⟨c0,c1,f0,f1⟩:=qx hO3;have FIN:=aa fun x0 x1=>nW (nX hO3 x0 x1)
   clear C2 HO2 hO3 hb3 HOW;go_wp2
   refine bodyPost_ret (v:=.agg #[.slice ad L.length cp,.int .i64 0]) (by simp [results,results198,asAddr,uh FIN]) rfl ?_;rw [uh HR];exact ⟨ad,cp,rfl,sP (uh HOW3) (by omega) (by omega) _ _,(hB3.setCell (p:=⟨w.heap.size,0,none⟩) (zD _) _).setCell (p:=⟨w.heap.size,1,none⟩) (zD _) _⟩
structure CfS (w:World) (M:Nat) (x:Cf) (q:World):Prop where
 x:q.heap[w.heap.size]?=some (.cells (dr x) 35)
 r:q.heap[w.heap.size+1]?=some (.cells #[.int .i64 0,.int .i64 0,.int .i64 0,.bool false,.bool false,.bool false] 35)
 m:q.heap[M]?=some (.map cI 6)
 b:Below w.heap.size w q
theorem CfS.step {w:World} {M:Nat} {x:Cf} {q q':World} (h:CfS w M x q) (hb:Below q.heap.size q q'):CfS w M x q' :=
 ⟨(hb.block _ (ge.1 h.x).1).trans h.x,(hb.block _ (ge.1 h.r).1).trans h.r,(hb.block _ (ge.1 h.m).1).trans h.m,h.b.trans (hb.mono h.b.size)⟩
theorem gq {W:World} {E g:Nat} (hg:g≠E) (x0 x1 x2 x3 x4 x5:Value):((((((W.setCell ⟨E,0,none⟩ x0).setCell ⟨E,1,none⟩ x1).setCell ⟨E,2,none⟩ x2).setCell ⟨E,3,none⟩ x3).setCell ⟨E,4,none⟩ x4).setCell ⟨E,5,none⟩ x5).heap[g]?=W.heap[g]?:=by
 rw [Below.heap_setCell _ _ _ _ hg,Below.heap_setCell _ _ _ _ hg,Below.heap_setCell _ _ _ _ hg,Below.heap_setCell _ _ _ _ hg,Below.heap_setCell _ _ _ _ hg,Below.heap_setCell _ _ _ _ hg]
theorem CfS.put {w:World} {M:Nat} {x:Cf} {q:World} (h:CfS w M x q) (h2:w.heap.size+1<M) (y:Cf) :
  CfS w M y ((((((q.setCell ⟨w.heap.size,0,none⟩ (.int .i64 y.m)).setCell ⟨w.heap.size,1,none⟩ (.int .i64 y.a)).setCell ⟨w.heap.size,2,none⟩ (.int .i64 y.g)).setCell ⟨w.heap.size,3,none⟩ (.bool y.p)).setCell ⟨w.heap.size,4,none⟩ (.bool y.c)).setCell ⟨w.heap.size,5,none⟩ (.bool y.d)) :=
 ⟨dP h.x _ _ _ _ _ _,(gq (by omega) _ _ _ _ _ _).trans h.r,(gq (by omega) _ _ _ _ _ _).trans h.m,cv h.b (zD _) _ _ _ _ _ _⟩
theorem eh {w:World} {B:Nat} {x0 x1 x2 x3 x4 x5:Value} {T:TypeId} (h:w.heap[B]?=some (.cells #[x0,x1,x2,x3,x4,x5] T)) :
  w.frozen? ⟨B,0,none⟩=false∧w.frozen? ⟨B,1,none⟩=false∧w.frozen? ⟨B,2,none⟩=false∧w.frozen? ⟨B,3,none⟩=false∧w.frozen? ⟨B,4,none⟩=false∧w.frozen? ⟨B,5,none⟩=false:=⟨aX h _,aX h _,aX h _,aX h _,aX h _,aX h _⟩
theorem lT (x:Cf) (v:Value) (F:List Op.Opt) (w:World) (hx:iv x=true) (hr:Op.right F=true) (h:HoldsO w v F) :
  Calls prog 201 #[.agg (dr x),v] w fun e w'=>e=.returned (.agg (dr (gI x F)))∧Below w.heap.size w w':=by
 have hFl:=Op.right_len hr;have C0:=aa fun W=>dm (x.m:Int) x.a x.g x.p x.c x.d W
 have C1:=aa fun W (hb:Below w.heap.size w W)=>cq v F W (by unfold maxLen;omega) (h.below hb rfl)
 rw [show aK (x.m:Int) x.a x.g=true from hx] at C0;rw [hr] at C1;have HFO:=aa (Op.right_all hr);have HAT:=aa fun i hi=>h.at i hi
 obtain ⟨ad,cp,rfl⟩:=h.form;obtain ⟨n,hn⟩:∃ n,F.length=n:=⟨_,rfl⟩;obtain ⟨_,hA,hR,hb⟩:=br w (.cells (dr x) 35) (.cells #[.int .i64 0,.int .i64 0,.int .i64 0,.bool false,.bool false,.bool false] 35);have H0:=aa (zA hA (zA hR hb));have d0:¬ ((400:Int)<(n:Int)):=by omega
 clear h hr hA hR hb;have HTL:Hid (F.take n=F):=aa (List.take_of_length_le (by omega));obtain ⟨R,hR⟩:∃ R,gI x F=R:=⟨_,rfl⟩;rw [hR];have HR:=aa hR;clear hR;have hx0:gI x (F.take 0)=x:=rfl;rw [hn] at C1 ⊢;go_enter func201,ntmps201
 go_wp2_with fail
 refine (uh C0 _).mono ?_;rintro e w1 ⟨rfl,hb1⟩;have hA1:=(hb1.block w.heap.size (by simp;omega)).trans (uh H0).1;have hR1:=(hb1.block (w.heap.size+1) (by simp)).trans (uh H0).2.1;have hB1:=(uh H0).2.2.trans (hb1.mono (uh H0).2.2.size);have H1:=aa (zA hA1 (zA hR1 hB1));clear hA1 hR1 hB1 hb1 H0 C0;go_wp2_with fail
 refine (uh C1 _ (uh H1).2.2).mono ?_;rintro e w2 ⟨rfl,hb2⟩;have hA2:=(hb2.block w.heap.size (ge.1 (uh H1).1).1).trans (uh H1).1;have hR2:=(hb2.block (w.heap.size+1) (ge.1 (uh H1).2.1).1).trans (uh H1).2.1;have hB2:=(uh H1).2.2.trans (hb2.mono (uh H1).2.2.size);have H2:=aa (zA hA2 (zA hR2 hB2));clear hA2 hR2 hB2 hb2 H1 C1;go_wp2_with fail
 refine (dF _).mono ?_;rintro e w3 ⟨rfl,hm3,hb3⟩;have hI:CfS w w2.heap.size (gI x (F.take 0)) w3:=by
  have hl1:=(ge.1 (uh H2).1).1;have hl2:=(ge.1 (uh H2).2.1).1;rw [hx0];exact ⟨(hb3.block _ hl1).trans (uh H2).1,(hb3.block _ hl2).trans (uh H2).2.1,hm3,(uh H2).2.2.trans (hb3.mono (uh H2).2.2.size)⟩
 have hM:w.heap.size+1<w2.heap.size:=(ge.1 (uh H2).2.1).1;have HI:=aa hI;clear hI hm3 hb3 H2 hx0 hx;go_wp2_with fail
 generalize w2.heap.size=M at *;go_loopw [26] (fun y wr=>∃ i:Nat,i≤n∧y=.int .i64 i∧CfS w M (gI x (F.take i)) wr) (fun y _=>n - (intOf y).toNat)
 case atStart=>exact ⟨0,Nat.zero_le _,rfl,uh HI⟩
 case round =>
  obtain ⟨i,hi,rfl,hS⟩:=hrel;clear HI;by_cases hlt:i<n
  ·have d1:(i:Int)<(n:Int):=by omega
   have d2:(0:Int)≤(i:Int):=by omega
   obtain ⟨g,⟨cp2,e2⟩,hgl,k0,k1⟩:=uh HAT i (by omega);cases e2;replace k0:=(hS.b.cell (p:=⟨g,i*2,none⟩) hgl).trans k0;replace k1:=(hS.b.cell (p:=⟨g,i*2+1,none⟩) hgl).trans k1;have HSN:=aa (lS x F i (by omega));have hok:=uh HFO _ (List.getElem_mem (show i<F.length by omega));generalize F[i]'(by omega)=o at *;obtain ⟨kd,dt⟩:=o;dsimp only at k0 k1;generalize gI x (F.take i)=y at *;have hds:dt.size≤20:=by unfold Op.ok at hok;have:=of_decide_eq_true hok;exact this.2.2
   have HS:=aa hS;clear hS HAT HFO hok;go_upto_region 9 with fail
   refine aI (fun q=>CfS w M y q∧q.heap[wr.heap.size]?=some (.cells #[.int .i64 kd,.string dt] 27))
    ⟨(uh HS).step ((zC _ _).alloc (zD _) _),zF wr _⟩ ?_
   rintro q1 ⟨hS1,hO1⟩;have hN1:M<wr.heap.size:=(ge.1 (uh HS).m).1;generalize wr.heap.size=N1 at *;have hl1:N1<q1.heap.size:=(ge.1 hO1).1;obtain ⟨c0,c1,_,_⟩:=cy hO1;have HV1:=aa (zA hS1 hO1);clear hO1 HS k0 k1;rcases qy kd with ⟨s,f,f2,f3,f4,f5,j,hs,hJ⟩ | ⟨hs,hwo,hf⟩
   ·have hlk:=kY q1 M cI 6 j kd _ hS1.m hJ.fd;have hcf:=hJ.cf4;have HJ2:=aa fun v=>hJ.wo y v
    clear hS1 hJ;go_upto_region 10 with fail
    refine aI (fun q=>CfS w M y q∧q.heap[q1.heap.size]?=some (.cells #[.int .i64 s,cY f,cY f2,cY f3,cY f4,cY f5] 59))
     ⟨(uh HV1).1.step ((zC _ _).alloc (zD _) _),zF q1 _⟩ ?_
    rintro q4 ⟨hS4,hR4⟩;obtain ⟨_,_,_,_,r4,_⟩:=aJ hR4;obtain ⟨m0,m1,m2,m3,m4,m5⟩:=aJ hS4.x;have HV4:=aa hS4;clear hS4 hR4 HV1 c0 c1 hlk;go_wp2_with fail
    refine (uh HJ2 _).mono ?_;rintro e w6 ⟨rfl,hb6⟩;have h6:=(uh HV4).step hb6;clear m0 m1 m2 m3 m4 m5;obtain ⟨m0,m1,m2,m3,m4,m5⟩:=aJ h6.x;obtain ⟨f0',f1',f2',f3',f4',f5'⟩:=eh h6.x;have HL:=aa (h6.put hM (lQ kd y));clear h6 hb6 HV4;go_wp2_with fail
    go_roundw
    case rel=>exact ⟨i+1,by omega,by go_num,by rw [uh HSN];exact uh HL⟩
    case measure=>simp [intOf];omega
   ·have hlk:=kZ q1 M cI 6 kd hS1.m hf;clear hS1 hf;go_wp2_with fail
    go_roundw
    case rel=>exact ⟨i+1,by omega,by go_num,by rw [uh HSN,hwo];exact (uh HV1).1.step ((zC _ _).alloc (zD _) _)⟩
    case measure=>simp [intOf];omega
  ·have e:i=n:=by omega
   subst e;have d1:¬ ((i:Int)<(i:Int)):=by omega
   rw [uh HTL,uh HR] at hS;obtain ⟨m0,m1,m2,m3,m4,m5⟩:=aJ hS.x;obtain ⟨r0,r1,r2,r3,r4,r5⟩:=aJ hS.r;obtain ⟨f0,f1,f2,f3,f4,f5⟩:=eh hS.r;have HS:=aa hS;clear hS HAT HFO HTL HR;go_wp2
   exact bodyPost_ret (v:=.agg (dr R)) (by simp [results,results201,asAddr,jU (dP (uh HS).r (.int .i64 R.m) (.int .i64 R.a) (.int .i64 R.g) (.bool R.p) (.bool R.c) (.bool R.d))]) rfl ⟨rfl,cv (uh HS).b (by omega) _ _ _ _ _ _⟩
end Go.Proofs.YtjebigodbnefiaaGreatDoor
