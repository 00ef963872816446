/- WkA CfL -/
import Derived.Test.YtjdgiimfpkideaaGreatDoorS09
import Derived.Test.YtjdgiimfpkideaaGreatDoorS12
set_option maxHeartbeats 8000000
set_option maxRecDepth 100000
namespace Go.Proofs.YtjdgiimfpkideaaGreatDoor
open Go.RowKit Go.Proofs.Tryz
variable {n:Nat}
theorem wV:Tt 99:=⟨by decide,by decide,by decide⟩
section
variable {w0 w1:World} {B:Nat} {c:Cx} {s:St} {v1 v2 vs vt:Value} {q:World}
theorem qh(h:Lay 99 w0 w1 B c s v1 v2 vs vt q)(hid:0<=s.e.id/\s.e.id<=255):Calls prog 101 #[(B,0)] q fun r q'=>r=.returned (.int .i64 ((s.e.id+1)%256))/\Lay 99 w0 w1 B c {s with e:=fi s.e} v1 v2 vs vt q' :=
 (uT B _ s.e.id q h.row rfl hid.1 hid.2).mono fun _ _ ⟨h1,h2⟩=>⟨h1,h2▸h.setRaw 15 _ (fi s.e) rfl⟩
theorem wW(h:Lay 99 w0 w1 B c s v1 v2 vs vt q)(htr:0<=s.e.tr/\s.e.tr<=5)(hn:0<=c.now/\c.now<=1000000000):Calls prog 102 #[(B,0)] q fun r q'=>r=.returned (.tuple #[])/\Lay 99 w0 w1 B c {s with e:=kq c.now s.e} v1 v2 vs vt q' :=
 (wT B _ s.e.tr s.e.du c.now q h.row rfl rfl rfl htr.1 htr.2 hn.1 hn.2).mono fun _ _ ⟨h1,h2⟩=>⟨h1,h2▸(h.setRaw 13 _ {s.e with tr:=max 0 (s.e.tr-1)} rfl).setRaw 14 _ (kq c.now s.e) rfl⟩
theorem lL(h:Lay 99 w0 w1 B c s v1 v2 vs vt q)(hn:s.sn.length<=1000)(cd id:Int)(dt:ByteArray):Calls prog 100 #[(B,0),cd,id,dt] q fun r q'=>r=.returned (.tuple #[])/\∃vs',Lay 99 w0 w1 B c (gE s cd id dt) v1 v2 vs' vt q':=by
 refine(wU B w1 _ vs s.sn cd id dt q h.row rfl hn h.os (aq h.os h.row h.tt.2.1) h.nr.size).mono ?_;rintro r q'⟨h1,v,q2,rfl,ho,hg⟩;refine⟨h1,v,h.put _ hg v _ ?_⟩;rw[List.length_append];exact ho
theorem wX(h:Lay 99 w0 w1 B c s v1 v2 vs vt q):Calls prog 107 #[(B,0),false] q fun r q'=>r=.returned (.tuple #[])/\Lay 99 w0 w1 B c {s with e:=gD s.e} v1 v2 vs vt q':=by
 refine(uU B (lF c s.e v1 v2 vs vt) q rfl h.row).mono ?_;rintro r q'⟨h1,h2,h3⟩;refine⟨h1,?_⟩;have e:tH (lF c s.e v1 v2 vs vt)=lF c (gD s.e) v1 v2 vs vt:=rfl;rw[e]at h2;exact h.ofNr h2 h3
theorem wY(h:Lay 99 w0 w1 B c s v1 v2 vs vt q):Calls prog 72 #[(B,0),mO] q fun r q'=>r=.returned (.tuple #[])/\∃v1 v2 vs vt,Lay 99 w0 w1 B c (pU s) v1 v2 vs vt q':=by
 have c13:=h.cell (i:=13) rfl;have f13:=h.frz 13;have HL:=aa h;clear h;go_enter func72,ntmps72
 go_wp2
 exact Great.bodyPost_end0 rfl rfl ⟨rfl,_,_,_,_,HL.out.setRaw 13 _ _ rfl⟩
theorem yM(h:Lay 99 w0 w1 B c s v1 v2 vs vt q):Calls prog 72 #[(B,0),pT] q fun r q'=>r=.returned (.tuple #[])/\∃v1 v2 vs vt,Lay 99 w0 w1 B c (pV s) v1 v2 vs vt q':=by
 have c13:=h.cell (i:=13) rfl;have f13:=h.frz 13;have HL:=aa h;clear h;go_enter func72,ntmps72
 go_wp2
 exact Great.bodyPost_end0 rfl rfl ⟨rfl,_,_,_,_,HL.out.setRaw 13 _ _ rfl⟩
theorem wZ(h:Lay 99 w0 w1 B c s v1 v2 vs vt q)(hf:Fit n c s)(hn:n<=1000):Calls prog 72 #[(B,0),mQ] q fun r q'=>r=.returned (.tuple #[])/\∃v1 v2 vs vt,Lay 99 w0 w1 B c (lH c s) v1 v2 vs vt q':=by
 have HF:=aa hf;have HL:=aa h;clear h hf;go_enter func72,ntmps72
 go_wp2_with fail
 refine(qh HL.out HF.out.id).mono ?_;rintro r q1⟨rfl,h1⟩;have HL1:=aa h1;clear h1;go_wp2_with fail
 refine(lL HL1.out (zE HF.out.sn hn) 5 _ _).mono ?_;rintro r q2⟨rfl,vs2,h2⟩;have HL2:=aa h2;clear h2;go_wp2_with fail
 refine(wW HL2.out HF.out.tr HF.out.now).mono ?_;rintro r q3⟨rfl,h3⟩;go_wp2
 exact Great.bodyPost_end0 rfl rfl ⟨rfl,_,_,_,_,h3⟩
theorem w_(h:Lay 99 w0 w1 B c s v1 v2 vs vt q)(hf:Fit n c s)(hn:n<=1000):Calls prog 72 #[(B,0),bP] q fun r q'=>r=.returned (.tuple #[])/\∃v1 v2 vs vt,Lay 99 w0 w1 B c (say bP s) v1 v2 vs vt q':=by
 have c38:=h.cell (i:=38) rfl;obtain⟨ad,cp,rfl⟩:=af h.ot;have hno:s.tl.length<=1000:=zE hf.tl hn;obtain⟨k,hnn⟩ := ex s.tl.length;have ho:=h.ot;rw[hnn]at c38 ho hno h;have HO:=aa ho;have HL:=aa h;clear h ho hf;go_enter func72,ntmps72
 go_wp2_with (first
  | (at_builtin;refine dw rfl _ _ rfl w1 (ad,k,cp) s.tl k hnn rfl HO.out bP rfl (by omega) HL.out.nr.size ?_;rintro v6 w6 ho6 hg6;obtain⟨a6,c6,rfl⟩:=af ho6
     have e6:=(hg6.block B (Nat.lt_of_lt_of_le HL.out.lt (by simp)) (fun e=>(aq HL.out.ot HL.out.row HL.out.tt.2.2) e.symm)).trans ((zG _ _ _ HL.out.lt).trans HL.out.row);have k6:w6.cell? (B,38)=some (.slice ad k cp):=cv e6
     have f6:w6.frozen? (B,38)=false:=aX e6 38;clear e6))
 refine Great.bodyPost_end0 rfl rfl ⟨rfl,_,_,_,_,HL.out.say _ hg6 _ _ ?_⟩;rw[List.length_append,hnn];exact ho6
theorem FM(h:Lay 99 w0 w1 B c s v1 v2 vs vt q)(hf:Fit n c s)(hn:n<=1000):Calls prog 72 #[(B,0),bQ] q fun r q'=>r=.returned (.tuple #[])/\∃v1 v2 vs vt,Lay 99 w0 w1 B c (say bQ s) v1 v2 vs vt q':=by
 have c38:=h.cell (i:=38) rfl;obtain⟨ad,cp,rfl⟩:=af h.ot;have hno:s.tl.length<=1000:=zE hf.tl hn;obtain⟨k,hnn⟩ := ex s.tl.length;have ho:=h.ot;rw[hnn]at c38 ho hno h;have HO:=aa ho;have HL:=aa h;clear h ho hf;go_enter func72,ntmps72
 go_wp2_with (first
  | (at_builtin;refine dw rfl _ _ rfl w1 (ad,k,cp) s.tl k hnn rfl HO.out bQ rfl (by omega) HL.out.nr.size ?_;rintro v6 w6 ho6 hg6;obtain⟨a6,c6,rfl⟩:=af ho6
     have e6:=(hg6.block B (Nat.lt_of_lt_of_le HL.out.lt (by simp)) (fun e=>(aq HL.out.ot HL.out.row HL.out.tt.2.2) e.symm)).trans ((zG _ _ _ HL.out.lt).trans HL.out.row);have k6:w6.cell? (B,38)=some (.slice ad k cp):=cv e6
     have f6:w6.frozen? (B,38)=false:=aX e6 38;clear e6))
 refine Great.bodyPost_end0 rfl rfl ⟨rfl,_,_,_,_,HL.out.say _ hg6 _ _ ?_⟩;rw[List.length_append,hnn];exact ho6
theorem FN(h:Lay 99 w0 w1 B c s v1 v2 vs vt q)(hf:Fit n c s)(hn:n<=1000):Calls prog 72 #[(B,0),bL] q fun r q'=>r=.returned (.tuple #[])/\∃v1 v2 vs vt,Lay 99 w0 w1 B c (pW s) v1 v2 vs vt q':=by
 have HF:=aa hf;have HL0:=aa h;clear h hf;go_enter func72,ntmps72
 go_wp2_with fail
 refine(wX HL0.out).mono ?_;rintro r q1⟨rfl,h⟩;have c38:=h.cell (i:=38) rfl;obtain⟨ad,cp,rfl⟩:=af h.ot;have hno:s.tl.length<=1000:=zE HF.out.tl hn;obtain⟨k,hnn⟩ := ex s.tl.length;have ho:=h.ot;dsimp only at c38 ho h;rw[hnn]at c38 ho hno h;have HO:=aa ho;have HL:=aa h;clear h ho HF HL0
 go_wp2_with (first
  | (at_builtin;refine dw rfl _ _ rfl w1 (ad,k,cp) s.tl k hnn rfl HO.out bL rfl (by omega) HL.out.nr.size ?_;rintro v6 w6 ho6 hg6;obtain⟨a6,c6,rfl⟩:=af ho6
     have e6:=(hg6.block B (Nat.lt_of_lt_of_le HL.out.lt (by simp)) (fun e=>(aq HL.out.ot HL.out.row HL.out.tt.2.2) e.symm)).trans ((zG _ _ _ HL.out.lt).trans HL.out.row);have k6:w6.cell? (B,38)=some (.slice ad k cp):=cv e6
     have f6:w6.frozen? (B,38)=false:=aX e6 38;clear e6))
 refine Great.bodyPost_end0 rfl rfl ⟨rfl,_,_,_,_,HL.out.say _ hg6 _ _ ?_⟩;rw[List.length_append,hnn];exact ho6
theorem xe(h:Lay 99 w0 w1 B c s v1 v2 vs vt q)(hf:Fit n c s)(hn:n<=1000):Calls prog 72 #[(B,0),mP] q fun r q'=>r=.returned (.tuple #[])/\∃v1 v2 vs vt,Lay 99 w0 w1 B c (lG c s) v1 v2 vs vt q':=by
 have HF:=aa hf;obtain⟨e1,e2,e3⟩:=g_ hf.ask;have CA:=aa fun W=>sD s.e.m2.toNat s.e.a2.toNat s.e.g2.toNat s.e.p2 s.e.c2 s.e.d2 W
 rw[e1,e2,e3]at CA;clear e1 e2 e3;have c6:=h.cell (i:=6) rfl;have c7:=h.cell (i:=7) rfl;have c8:=h.cell (i:=8) rfl;have c9:=h.cell (i:=9) rfl;have c10:=h.cell (i:=10) rfl;have c11:=h.cell (i:=11) rfl;have HL:=aa h;clear h hf;go_enter func72,ntmps72
 go_wp2_with fail
 refine(uh CA _).mono ?_;rintro r q1⟨_,rfl,ad,cp,rfl,ho,hb⟩;have h1:=HL.out.step hb;have c17:=h1.cell (i:=17) rfl;have f17:=h1.frz 17;have HL1:=aa (HL.out.new1 hb _ (dv s.e) ho);clear h1 ho hb HL CA c6 c7 c8 c9 c10 c11;go_upto_region 10 with fail
 refine bb (fun z=>Lay 99 w0 w1 B c {s with F1:=dv s.e} (.slice ad (dv s.e).length cp) v2 vs vt z) ?_ ?_
 .exact uh HL1
 clear HL1 c17 f17;rintro z hz;have c17:=hz.cell (i:=17) rfl;have HZ:=aa (hz.step (zC _ _).drew);clear hz;refine wp_region_held_drew (S:=fun z=>z.cell? (B,17)=some (.slice ad (dv s.e).length cp)) (by kernel_rfl) ?_ (fun hHeld=>?_)
 .exact c17
 refine tq 0 1 3 4 ?_;refine tt 5 6 ?_;refine t2 7 ?_;refine r3 2 fun K hK=>?_
 go_simp;refine(qh HZ.out HF.out.id).mono ?_;rintro r z1⟨rfl,h1⟩;have HZ1:=aa h1;clear h1;go_wp2_with fail
 refine ro hK ?_ fun _=>?_
 .exact HZ1.out.cell (i:=17) rfl
 clear hK K;refine r3 8 fun K hK=>?_
 go_simp;refine(fJ _ (dv s.e) _ (iP (jo s.e)) (HoldsO.own HZ1.out.o1)).mono ?_;rintro r z2⟨rfl,hb2⟩;have HZ2:=aa (HZ1.out.step hb2);clear hb2;go_wp2_with fail
 refine ro hK ?_ fun _=>?_
 .exact HZ2.out.cell (i:=17) rfl
 clear hK K;refine r3 9 fun K hK=>?_
 go_simp;refine(lL HZ2.out (zE HF.out.sn hn) 1 _ _).mono ?_;rintro r z3⟨rfl,vs3,h3⟩;have HP:=aa h3;clear h3;go_wp2_with fail
 refine ro hK ?_ fun _=>?_
 .exact HP.out.cell (i:=17) rfl
 clear hK K;refine dn ?_ _;go_wp2_with fail
 refine(wW HP.out HF.out.tr HF.out.now).mono ?_;rintro r q9⟨rfl,h9⟩;go_wp2
 exact Great.bodyPost_end0 rfl rfl ⟨rfl,_,_,_,_,h9⟩
end
theorem qF(x:Cf)(v:Value)(F:List Op.Opt)(w:World)(hx:sw x=true)(hr:Op.right F=true)(h:HoldsO w v F):Calls prog 139 #[.agg (dr x),v] w fun e w'=>e=.returned (.agg (dr (bF x F)))/\Below w w w':=by
 have hFl:=Op.right_len hr;have C0:=aa fun W=>dm (x.m:Int) x.a x.g x.p x.c x.d W
 have C1:=aa fun W (hb:Below w w W)=>nm v F W (by unfold maxLen;omega) (h.below hb rfl)
 rw[show aK (x.m:Int) x.a x.g=true from hx]at C0;rw[hr]at C1;have HFO:=aa (Op.right_all hr);have HAT:=aa fun i hi=>h.at i hi
 obtain⟨ad,cp,rfl⟩:=h.form;obtain⟨n,hn⟩ := ex F.length;obtain⟨_,hA,hR,hb⟩:=br w (.cells (dr x) 24) (.cells #[(0:Int),(0:Int),(0:Int),false,false,false] 24);have H0:=aa (zA hA (zA hR hb));have d0:¬((400:Int)<(n:Int)):=by omega
 clear h hr hA hR hb;have HTL:Hid (F.take n=F):=aa (List.take_of_length_le (by omega));obtain⟨R,hR⟩ := ex (bF x F);rw[hR];have HR:=aa hR;clear hR;have hx0:bF x (F.take 0)=x:=rfl;rw[hn]at C1|-;go_enter func139,ntmps139
 go_wp2_with fail
 refine(uh C0 _).mono ?_;rintro e w1⟨rfl,hb1⟩;have hA1:=(hb1.block w (by simp;omega)).trans H0.out.1;have hR1:=(hb1.block (w.heap.size+1) (by simp)).trans H0.out.2.1;have hB1:=H0.out.2.2.trans (hb1.mono H0.out.2.2.size);have H1:=aa (zA hA1 (zA hR1 hB1));clear hA1 hR1 hB1 hb1 H0 C0;go_wp2_with fail
 refine(uh C1 _ H1.out.2.2).mono ?_;rintro e w2⟨rfl,hb2⟩;have hA2:=(hb2.block w (ge.1 H1.out.1).1).trans H1.out.1;have hR2:=(hb2.block (w.heap.size+1) (ge.1 H1.out.2.1).1).trans H1.out.2.1;have hB2:=H1.out.2.2.trans (hb2.mono H1.out.2.2.size);have H2:=aa (zA hA2 (zA hR2 hB2));clear hA2 hR2 hB2 hb2 H1 C1;go_wp2_with fail
 refine(dF _).mono ?_;rintro e w3⟨rfl,hm3,hb3⟩;have hI:CfS w w2 (bF x (F.take 0)) w3:=by
  have hl1:=(ge.1 H2.out.1).1;have hl2:=(ge.1 H2.out.2.1).1;rw[hx0];exact⟨(hb3.block _ hl1).trans H2.out.1,(hb3.block _ hl2).trans H2.out.2.1,hm3,H2.out.2.2.trans (hb3.mono H2.out.2.2.size)⟩
 have hM:w.heap.size+1<w2.heap.size:=(ge.1 H2.out.2.1).1;have HI:=aa hI;clear hI hm3 hb3 H2 hx0 hx;go_wp2_with fail
 generalize w2.heap.size=M at*;go_loopw [26] (fun y wr=>∃i:Nat,i<=n/\y=.int .i64 i/\CfS w M (bF x (F.take i)) wr) (fun y _=>n-(intOf y).toNat)
 case atStart=>exact⟨0,Nat.zero_le _,rfl,uh HI⟩
 case round =>
  obtain⟨i,hi,rfl,hS⟩:=hrel;clear HI;by_cases hlt:i<n
  .have d1:(i:Int)<(n:Int):=by omega
   have d2:(0:Int)<=(i:Int):=by omega
   obtain⟨g,⟨cp2,e2⟩,hgl,k0,k1⟩:=uh HAT i (by omega);cases e2;replace k0:=(hS.b.cell (p:=⟨g,i*2,none⟩) hgl).trans k0;replace k1:=(hS.b.cell (p:=⟨g,i*2+1,none⟩) hgl).trans k1;have HSN:=aa (jw x F i (by omega));have hok:=uh HFO _ (List.getElem_mem (show i<F.length by omega));generalize F[i]'(by omega)=o at*;obtain⟨kd,dt⟩:=o;dsimp only at k0 k1;generalize bF x (F.take i)=y at*;have hds:dt.size<=20:=by unfold Op.ok at hok;have:=of_decide_eq_true hok;exact this.2.2
   have HS:=aa hS;clear hS HAT HFO hok;go_upto_region 9 with fail
   refine bb (fun q=>CfS w M y q/\q.heap[wr.heap.size]?=some (.cells #[kd,dt] 105))
    ⟨HS.out.step ((zC _ _).alloc (zD _) _),zF wr _⟩ ?_
   rintro q1⟨hS1,hO1⟩;have hN1:M<wr.heap.size:=(ge.1 HS.out.m).1;generalize wr.heap.size=N1 at*;have hl1:N1<q1.heap.size:=(ge.1 hO1).1;obtain⟨c0,c1,_,_⟩:=av hO1;have HV1:=aa (zA hS1 hO1);clear hO1 HS k0 k1;unfold fN at HSN;dsimp only at HSN;rcases qy kd with⟨s,f,f2,f3,f4,f5,j,hs,hJ⟩|⟨hs,hwo,hf⟩
   .have CR:=aa (gh M kd dt s f f2 f3 f4 f5 j q1 hS1.m hJ.fd);have hcf:=hJ.cf3;have HJL:=aa hJ.ls;have h4:=i8 hs;clear hS1 hJ;go_wp2_with fail
    refine CR.out.mono ?_;rintro e w3'⟨rfl,hb3⟩;have HV3:=aa (zA (HV1.out.1.step hb3) ((hb3.block N1 hl1).trans HV1.out.2));have hl3:N1<w3'.heap.size:=Nat.lt_of_lt_of_le hl1 hb3.size;clear hb3 HV1 hl1 c0 c1 CR;cases hq:((dt.size:Int)==(s:Int))
    .have hne:¬(bN kd=some dt.size):=fun e=>by
      rw[hs]at e;cases e;rw[beq_self_eq_true]at hq;cases hq
     rw[if_neg hne]at HSN;go_wp2_with fail
     go_roundw
     case rel=>exact⟨i+1,by omega,by go_num,by rw[uh HSN];exact HV3.out.1.step ((zC _ _).alloc (zD _) _)⟩
     case measure=>simp[intOf];omega
    .have hes:dt.size=s:=by have:=eq_of_beq hq;omega
     rw[if_pos (by rw[hs,hes])]at HSN;have CN:=aa fun v=>i7 kd dt v (by omega)
     have HJ2:=aa fun v=>uh HJL y (da dt.data.toList) v
     have CO:=aa fun v=>sR (aD kd y (da dt.data.toList)) y v
     generalize da dt.data.toList=nx at*;clear HJL;go_upto_region 11 with fail
     refine bb (fun q=>CfS w M y q/\q.heap[N1]?=some (.cells #[kd,dt] 105)/\q.heap[w3'.heap.size]?=some (.cells #[s,cY f,cY f2,cY f3,cY f4,cY f5] 191))
      ⟨HV3.out.1.step ((zC _ _).alloc (zD _) _),(zG _ _ _ hl3).trans HV3.out.2,zF w3' _⟩ ?_
     rintro q4⟨hS4,hO4,hR4⟩;generalize w3'.heap.size=N2 at*;obtain⟨c0,c1,_,_⟩:=av hO4;obtain⟨_,_,_,rM,_,_⟩:=aJ hR4;obtain⟨m0,m1,m2,m3,m4,m5⟩:=aJ hS4.x;have HV4:=aa (zA hS4 (zA hO4 hR4));clear hS4 hO4 hR4 HV3;have hn1:N1<q4.heap.size:=(ge.1 HV4.out.2.1).1;have hn2:N2<q4.heap.size:=(ge.1 HV4.out.2.2).1;clear m0 m1 m2 m3 m4 m5;refine zS (I:=fun L a z=>∃l0 l1 l2 l3 l4 l5 l6 l7 l8:Bool,L=#[l0,l1,l2,l3,l4,l5,l6,l7,l8]/\a=⟨#[.agg (dr x),.slice (some ⟨g,0,none⟩) n cp,.pointer (some ⟨w.heap.size,0,none⟩),undef,.pointer (some ⟨w.heap.size+1,0,none⟩),.map (some M),undef,.pointer (some ⟨N1,0,none⟩),.pointer (some ⟨N2,0,none⟩),.bool true,.slice (some ⟨g,0,none⟩) n cp,.int .i64 (n:Nat),.bool false,undef,.agg #[.int .i64 x.m,.int .i64 x.a,.int .i64 x.g,.bool x.p,.bool x.c,.bool x.d],.bool true,.bool false,.bool false,.slice (some ⟨g,0,none⟩) n cp,.bool true,.bool false,.bool false,undef,.map (some M),.slice (some ⟨g,0,none⟩) n cp,.int .i64 (n:Nat),.int .i64 (i:Nat),.bool true,.pointer (some ⟨g,i*2,none⟩),.agg #[.int .i64 kd,.string dt],.tuple #[aZ (s:Nat) f f2 f3 f4 f5,.bool true],.map (some M),.agg #[.int .i64 kd,.string dt],.tuple #[aZ (s:Nat) f f2 f3 f4 f5,.bool true],aZ (s:Nat) f f2 f3 f4 f5,.bool true,.bool true,cond l0 (.pointer (some ⟨N2,3,none⟩)) u37,cond l1 (cY f3) u38,cond l2 (.agg (dr y)) u39,cond l3 (.agg #[.int .i64 kd,.string dt]) u40,cond l4 (.int .i64 (nx:Nat)) u41,cond l5 (.agg (dr (aD kd y nx))) u42,cond l6 (.agg (dr y)) u43,cond l7 (.agg (dr (li (aD kd y nx) y))) u44,u45,undef],[]⟩/\(l8=false->Below q4.heap.size q4 z)/\(l8=true->(l0&&l1&&l2&&l3&&l4&&l5&&l6&&l7)=true/\CfS w M (li (aD kd y nx) y) z)) (by kernel_rfl) ⟨false,false,false,false,false,false,false,false,false,rfl,rfl,fun _=>(zC _ _).drew,fun e=>by cases e⟩ ?_ (by kernel_rfl) ?_
     .rintro L a z ⟨l0,l1,l2,l3,l4,l5,l6,l7,l8,rfl,rfl,_,hE⟩ hc;have W8:l8=true:=by
       cases l8
       .exact absurd (by simp) (List.count_eq_zero.1 hc)
       .rfl
      have HL:=aa (hE W8).2;clear hE hc W8 hs hq;go_wp2_with fail
      go_roundw
      case rel=>exact⟨i+1,by omega,by go_num,by rw[uh HSN];exact uh HL⟩
      case measure=>simp[intOf];omega
     .rintro L a z i9 ⟨l0,l1,l2,l3,l4,l5,l6,l7,l8,rfl,rfl,hB,hE⟩ hi9 hn9 hw9;have h8:l8=false:=by
       cases l8
       .rfl
       .have h:=(hE rfl).1;simp only[zK]at h;obtain⟨⟨⟨⟨⟨⟨⟨rfl,rfl⟩,rfl⟩,rfl⟩,rfl⟩,rfl⟩,rfl⟩,rfl⟩:=h;exact absurd hn9 ((by decide:∀i:Nat,i<9->(#[true,true,true,true,true,true,true,true,true]:Array Bool)[i]?≠some false) i9 hi9)
      subst h8;have B:=hB rfl;replace c0:=(B.cell (p:=(N1,0)) hn1).trans c0;replace c1:=(B.cell (p:=(N1,1)) hn1).trans c1;replace rM:=(B.cell (p:=(N2,3)) hn2).trans rM;have h7:=HV4.out.1.step B;clear hB hE hn9 HV4;match i9,hi9,hw9 with
      | 0,_,hw =>
       clear hw;clear h7;refine wpOp_step rfl fun K hK=>?_
       go_simp;exact hK _ _ ⟨true,l1,l2,l3,l4,l5,l6,l7,false,rfl,rfl,fun _=>B,fun e=>by cases e⟩
      | 1,_,hw =>
       simp[pg,Region.binds]at hw;have W0:l0=true:=by simp[hw]
       subst W0;simp only[cond_true];clear h7;refine wpOp_step rfl fun K hK=>?_
       go_simp;exact hK _ _ ⟨true,true,l2,l3,l4,l5,l6,l7,false,rfl,rfl,fun _=>B,fun e=>by cases e⟩
      | 2,_,hw =>
       clear hw;obtain⟨m0,m1,m2,m3,m4,m5⟩:=aJ h7.x;clear h7;refine wpOp_step rfl fun K hK=>?_
       go_simp;exact hK _ _ ⟨l0,l1,true,l3,l4,l5,l6,l7,false,rfl,rfl,fun _=>B,fun e=>by cases e⟩
      | 3,_,hw =>
       clear hw;clear h7;refine wpOp_step rfl fun K hK=>?_
       go_simp;exact hK _ _ ⟨l0,l1,l2,true,l4,l5,l6,l7,false,rfl,rfl,fun _=>B,fun e=>by cases e⟩
      | 4,_,hw =>
       simp[pg,Region.binds]at hw;have W3:l3=true:=by simp[hw]
       subst W3;simp only[cond_true];clear h7;refine wpOp_step rfl fun K hK=>?_
       go_simp;refine(uh CN _).mono ?_;rintro e w5⟨rfl,hb5⟩;exact hK _ _ ⟨l0,l1,l2,true,true,l5,l6,l7,false,rfl,rfl,fun _=>B.trans (hb5.mono B.size),fun e=>by cases e⟩
      | 5,_,hw =>
       simp[pg,Region.binds]at hw;have W1:l1=true:=by simp[hw]
       have W2:l2=true:=by simp[hw]
       have W4:l4=true:=by simp[hw]
       subst W1 W2 W4;simp only[cond_true];clear h7;refine wpOp_step rfl fun K hK=>?_
       go_simp;refine(uh HJ2 _).mono ?_;rintro e w5⟨rfl,hb5⟩;exact hK _ _ ⟨l0,true,true,l3,true,true,l6,l7,false,rfl,rfl,fun _=>B.trans (hb5.mono B.size),fun e=>by cases e⟩
      | 6,_,hw =>
       clear hw;obtain⟨m0,m1,m2,m3,m4,m5⟩:=aJ h7.x;clear h7;refine wpOp_step rfl fun K hK=>?_
       go_simp;exact hK _ _ ⟨l0,l1,l2,l3,l4,l5,true,l7,false,rfl,rfl,fun _=>B,fun e=>by cases e⟩
      | 7,_,hw =>
       simp[pg,Region.binds]at hw;have W5:l5=true:=by simp[hw]
       have W6:l6=true:=by simp[hw]
       subst W5 W6;simp only[cond_true];clear h7;refine wpOp_step rfl fun K hK=>?_
       go_simp;refine(uh CO _).mono ?_;rintro e w5⟨rfl,hb5⟩;exact hK _ _ ⟨l0,l1,l2,l3,l4,true,true,true,false,rfl,rfl,fun _=>B.trans (hb5.mono B.size),fun e=>by cases e⟩
      | 8,_,hw =>
       simp[pg,Region.binds]at hw;have W0:l0=true:=by simp[hw]
       have W1:l1=true:=by simp[hw]
       have W2:l2=true:=by simp[hw]
       have W3:l3=true:=by simp[hw]
       have W4:l4=true:=by simp[hw]
       have W5:l5=true:=by simp[hw]
       have W6:l6=true:=by simp[hw]
       have W7:l7=true:=by simp[hw]
       subst W0 W1 W2 W3 W4 W5 W6 W7;simp only[cond_true];obtain⟨m0,m1,m2,m3,m4,m5⟩:=aJ h7.x;obtain⟨f0',f1',f2',f3',f4',f5'⟩:=eh h7.x;have HL:=aa (h7.put hM (li (aD kd y nx) y));clear h7;refine wpOp_step rfl fun K hK=>?_
       go_simp;exact hK _ _ ⟨true,true,true,true,true,true,true,true,true,rfl,rfl,fun e=>(by cases e),fun _=>⟨rfl,uh HL⟩⟩
      | k+9,hi,_=>exact absurd hi (by simp)
   .have CR:=aa (gW M kd dt q1 hS1.m hf);rw[if_neg (by rw[hs];intro e;cases e)]at HSN;clear hS1 hf;go_wp2_with fail
    refine CR.out.mono ?_;rintro e w3'⟨rfl,hb3⟩;have HV3:=aa (HV1.out.1.step hb3);clear hb3 HV1 hl1 c0 c1 CR;go_wp2_with fail
    go_roundw
    case rel=>exact⟨i+1,by omega,by go_num,by rw[uh HSN];exact HV3.out.step ((zC _ _).alloc (zD _) _)⟩
    case measure=>simp[intOf];omega
  .have e:i=n:=by omega
   subst e;have d1:¬((i:Int)<(i:Int)):=by omega
   rw[uh HTL,uh HR]at hS;obtain⟨m0,m1,m2,m3,m4,m5⟩:=aJ hS.x;obtain⟨r0,r1,r2,rM,rN,r5⟩:=aJ hS.r;obtain⟨f0,f1,f2,f3,f4,f5⟩:=eh hS.r;have HS:=aa hS;clear hS HAT HFO HTL HR;go_wp2
   exact bodyPost_ret (v:=.agg (dr R)) (by simp[results,results139,asAddr,jU (dP HS.out.r R.m R.a R.g R.p R.c R.d)]) rfl ⟨rfl,nz HS.out.b (by omega) _ _ _ _ _ _⟩
end Go.Proofs.YtjdgiimfpkideaaGreatDoor
