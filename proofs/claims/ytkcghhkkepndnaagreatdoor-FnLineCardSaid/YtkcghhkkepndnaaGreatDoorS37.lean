/- The program takes frames off one end's line, and the other end hears what is found in them; what lay in memory stands but for the two ends and their rows; no condition but those named. The program's world of a numbered line: an end sends on, or again; a frame comes; one is spoilt; what lay in memory stands but for the two ends and their rows; no condition but those named. -/
import Derived.Test.YtkcghhkkepndnaaGreatDoorS34
import Derived.RangeFuncBound
import Derived.Test.YtkcghhkkepndnaaGreatDoorS31
import Derived.Test.YtkcghhkkepndnaaGreatDoorS27
import Derived.Test.YtkcghhkkepndnaaGreatDoorShW
namespace Go.Proofs.YtkcghhkkepndnaaGreatDoor
open Go.RowKit Go.Shelf
attribute [local go_sem] Oper.semAt_some
set_option maxHeartbeats 16000000 in
set_option maxRecDepth 100000 in
theorem iTakeA {base:Nat} {W:World} {B:Nat} {m:Nw} {n:Int} {K:Nat→Prop} (h:MN base B m n W K) {na nb c:Nat} (ok:NwOk na nb c m) (hna:na≤990000) (hcc:c≤100000000) {C1 C2 cnt:Nat} (b1:W.heap[C1]?=some (.cells #[.int .i64 (cnt:Int)] 3)) (b2:W.heap[C2]?=some (.cells #[.pointer (some ⟨B,20,none⟩)] 108)) :
  Calls Tryz.prog 47 #[.pointer (some ⟨B,0,none⟩),.func (.func 89) #[] #[.pointer (some ⟨C1,0,none⟩),.pointer (some ⟨C2,0,none⟩)],.pointer (some ⟨B,0,none⟩)] W fun e W'=>e=.returned (.tuple #[])∧∃ K',MN base B (timesN cmA (min cnt m.b.ln.length) m) n W' K'∧Fz (fun k=>k=B) K K' W W':=by
 have hbW:Below W.heap.size W ((W.alloc (.cells #[.pointer (some ⟨B,0,none⟩)] 50)).alloc (.cells #[.pointer (some ⟨B,0,none⟩)] 88)):=((Below.refl _ _).alloc (Nat.le_refl _) _).alloc (by simp) _
 have s2:=heap_alloc_new (W.alloc (.cells #[.pointer (some ⟨B,0,none⟩)] 50)) (.cells #[.pointer (some ⟨B,0,none⟩)] 88)
 rw [World.size_alloc] at s2
 have s1:=(Below.heap_alloc (W.alloc (.cells #[.pointer (some ⟨B,0,none⟩)] 50)) (.cells #[.pointer (some ⟨B,0,none⟩)] 88) W.heap.size (by simp)).trans (heap_alloc_new W (.cells #[.pointer (some ⟨B,0,none⟩)] 50))
 have hM2:=h.step hbW
 have b1':=(hbW.block C1 (Array.getElem?_eq_some_iff.1 b1).1).trans b1
 have b2':=(hbW.block C2 (Array.getElem?_eq_some_iff.1 b2).1).trans b2
 clear b1 b2 h
 refine (callsIn_wide (n:=3)).1 ?_
 refine callsIn_of_wp_marks Tryz.func47 rfl trivial ?_ rfl
 simp only [Tryz.ntmps47,List.size_toArray,List.length_cons,List.length_nil,Nat.reduceAdd,Nat.reduceSub,Array.replicate_succ,Array.replicate_zero,List.push_toArray,List.append_toArray,List.nil_append,List.cons_append]
 gi_wp2
 generalize hWW:(W.alloc (.cells #[.pointer (some ⟨B,0,none⟩)] 50)).alloc (.cells #[.pointer (some ⟨B,0,none⟩)] 88)=W2 at *
 generalize hs1:W.heap.size=S1 at *
 have hle:base≤W2.heap.size:=hM2.lo.le
 refine wp_range (gf:=89) (lb:=#[.pointer (some ⟨C1,0,none⟩),.pointer (some ⟨C2,0,none⟩)]) rfl (enters_of Tryz.func89 (by kernel_rfl) rfl) (J:=fun y=>∃ K',MN base B (timesN cmA (min cnt m.b.ln.length) m) n y K'∧Fz (fun k=>k=B) K K' W2 y) ?st ?it ?dn
 case st =>
  rintro V l r o hl hV ⟨K',hM',hf⟩
  exact ⟨K',hM'.put hV rfl (Nat.le_trans hle hl) _,((hf.two (l:=l)).put (Or.inr rfl) _).all hl⟩
 case dn =>
  rintro D y hD ⟨K',hM',hf⟩ hdf
  have hfin:Hid (∃ K',MN base B (timesN cmA (min cnt m.b.ln.length) m) n (y.putObj D (.deferred none)) K'∧Fz (fun k=>k=B) K K' W (y.putObj D (.deferred none))):=hide (by
   refine ⟨K',hM'.put hdf rfl (Nat.le_trans hle hD) _,?_⟩
   have h1:=((hf.two (l:=D)).put (Or.inr rfl) (.deferred none)).all hD
   rw [← hs1] at hbW
   exact (Fz.of_below hbW).trans h1)
  clear hM' hf
  gi_wp2
  refine ⟨by simp,.inl ⟨_,_,rfl,run_takeDeferred hdf,?_⟩⟩
  exact ⟨_,results_none rfl _ _ _,rfl,uh hfin⟩
 case it =>
  intro fn l D W1 R hR hl hD hb1 hz1 hrec
  have kp:∀ (g:Nat) (x:Value) (T:TypeId),T≠63→T≠9→T≠82→W2.heap[g]?=some (.cells #[x] T)→∀ y K',Fz (fun k=>k=B∨k=l) K K' W2 y→y.heap[g]?=some (.cells #[x] T):=fun g x T t1 t2 t3 hg y K' hf =>
   hM2.keepT hf g _ T t1 t2 t3 (by have:=(Array.getElem?_eq_some_iff.1 hg).1;omega) hg
  refine CallsIn.mono (iCome1 (base:=base) (T:=63) (l:=l) (B:=B) (k:=20) (C1:=C1) (C2:=C2) (m0:=m.b.ln.length) (cnt:=cnt) (W:=W1) (n:=2) (by omega) (fun i y=>i≤m.b.ln.length∧RecAt l R D .ready y∧∃ K',MN base B (timesN cmA i m) n y K'∧Fz (fun k=>k=B∨k=l) K K' W2 y) ?hI ?hdr ?h0) ?fin
  case fin =>
   rintro e y ⟨hv,_,hr,K',h1,h2⟩
   exact ⟨hv,⟨K',h1,h2.all hl⟩,hr⟩
  case h0=>exact ⟨Nat.zero_le _,hrec,K,hM2.step hb1,Fz.of_below hb1⟩
  case hdr =>
   rintro i y ⟨h1,h2,K',hM',hf⟩
   exact ⟨h1,⟨h2.lp,h2.df⟩,K',hM'.step (Below.refl _ _).drew,hf.trans (Fz.of_below (Below.refl _ _).drew)⟩
  case hI =>
   rintro i y ⟨hi,hr,K',hM',hf⟩
   have hln:=cmA_ln m i hi
   have hok:=timesA_ok i ok
   obtain ⟨qa,la,ga,qb,lb,gb,hN',hKe⟩:=id hM'
   refine ⟨kp C1 _ _ (by decide) (by decide) (by decide) b1' y K' hf,kp C2 _ _ (by decide) (by decide) (by decide) b2' y K' hf,slC (timesN cmA i m).a.p qa la (timesN cmA i m).a.df ga ++ (lpC (timesN cmA i m).b.p qb).toList,_,lb,(timesN cmA i m).b.ln,rfl,hN'.sb.wr,by rw [hln,List.length_drop];omega,?_⟩
   intro f r z v2 eL hWz hfz
   subst hR
   have h1q:i+1≤m.b.ln.length:=by
    have:=congrArg List.length hln
    rw [eL,List.length_drop,List.length_cons] at this
    omega
   have hfok:SfOk f:=hok.b.f f (by rw [eL];exact List.mem_cons_self ..)
   have hst:timesN cmA (i+1) m=⟨(tookN f (timesN cmA i m).a (timesN cmA i m).bad (timesN cmA i m).un).s,lnN (timesN cmA i m).b r,(tookN f (timesN cmA i m).a (timesN cmA i m).bad (timesN cmA i m).un).bad,(tookN f (timesN cmA i m).a (timesN cmA i m).bad (timesN cmA i m).un).un⟩:=cmA_at eL
   have hfz2:=Fz.line gb hfz
   have hNz:=hN'.setB (hN'.sb.setLine hfz hWz) hfz2 (Or.inl rfl)
   have hMz:MN base B ⟨(timesN cmA i m).a,lnN (timesN cmA i m).b r,(timesN cmA i m).bad,(timesN cmA i m).un⟩ n z (K4 la ga v2 gb):=⟨_,_,_,_,_,_,hNz,rfl⟩
   have hfw:Fz (fun k=>k=B) K' (K4 la ga v2 gb) y z:=by
    rw [hKe]
    exact hfz2.wide' (K2 la ga)
   have hrz:RecAt l _ D .ready z:=hr.keep (hfw.keepsN hM' W2.heap.size) hl hD
   have hfZ:Fz (fun k=>k=B∨k=l) K (K4 la ga v2 gb) W2 z:=hf.trans hfw.two
   generalize timesN cmA (i+1) m=mi1 at *
   generalize timesN cmA i m=mi at *
   generalize K4 la ga v2 gb=Kz at *
   clear hN' hKe hfz hWz hfz2 hNz hM' hf hr hfw
   refine YieldAt.mono (yield_of (B:=W2.heap.size) (J:=fun y'=>i+1≤m.b.ln.length∧∃ K3,MN base B mi1 n y' K3∧Fz (fun k=>k=B∨k=l) K K3 W2 y') hrz rfl hl hD ?hJ ?wk) ?mo
   case mo =>
    rintro e z' ⟨rfl,⟨h1,h2⟩,h3⟩
    exact ⟨rfl,h1,h3,h2⟩
   case hJ =>
    rintro V r' o hV ⟨h1,K3,hM3,hf3⟩
    exact ⟨h1,K3,hM3.put hV rfl (Nat.le_trans hle hl) _,hf3.put (Or.inr rfl) _⟩
   case wk =>
    have hb4:Below z.heap.size z (z.alloc (.cells #[.string f.text,.string f.bytes] 82)):=(Below.refl _ _).alloc (Nat.le_refl _) _
    have hN4:=heap_alloc_new z (.cells #[.string f.text,.string f.bytes] 82)
    have hlz:l<z.heap.size:=(Array.getElem?_eq_some_iff.1 hrz.lp).1
    have hl4:=(hb4.block l hlz).trans hrz.lp
    have HH:Hid (∀ o:Obj,MN base B ⟨mi.a,lnN mi.b r,mi.bad,mi.un⟩ n ((z.alloc (.cells #[.string f.text,.string f.bytes] 82)).putObj l o) Kz∧Fz (fun k=>k=B∨k=l) K Kz W2 ((z.alloc (.cells #[.string f.text,.string f.bytes] 82)).putObj l o)∧((z.alloc (.cells #[.string f.text,.string f.bytes] 82)).putObj l o).heap[z.heap.size]?=some (.cells #[.string f.text,.string f.bytes] 82)∧∀ g,Kz g→g<z.heap.size):=hide fun o =>
     ⟨(hMz.step hb4).put hl4 rfl (Nat.le_trans hle hl) o,(hfZ.trans (Fz.of_below hb4)).put (Or.inr rfl) o,(World.putObj_heap_other (by omega)).trans hN4,fun g hg=>(hMz.kk g hg).2.1⟩
    have HK9:Hid (KeepsFrom W2.heap.size z (z.alloc (.cells #[.string f.text,.string f.bytes] 82))):=hide (below_keeps9 hb4)
    have HS1:=hide (kp S1 _ _ (by decide) (by decide) (by decide) s1)
    have HS2:=hide (kp (S1+1) _ _ (by decide) (by decide) (by decide) s2)
    have HST:=hide hst
    have HLN:=hide hln
    clear hb4 hN4 hl4 hst hMz hfZ hrz hrec kp hM2 hb1 b1' b2' s1 s2 hbW hWW hz1 hln eL
    gi_wp2
    refine ⟨uh HK9,?_⟩
    intro W3 hW3 hr3
    obtain ⟨hM3,hf3,hN3,hown⟩:=uh HH (.loop (recOf fn _ _ _ _ D .busy))
    rw [← hW3] at hM3 hf3 hN3
    clear HH HK9 hW3 hr3
    have g1:=cell1L (uh HS1 _ _ hf3)
    have g2:=cell1L (uh HS2 _ _ hf3)
    have x1:W3.cell? ⟨z.heap.size,1,none⟩=some (.string f.bytes):=by rw [cr hN3];rfl
    generalize z.heap.size=N at *
    gi_wp2
    refine ⟨trivial,?_⟩
    have hil:i≤40:=Nat.le_trans hi ok.b.l
    refine CallsIn.mono (CallsIn.inRound l (callsIn_wide.2 (iFindA hM3 hok.a.d hfok.c))) ?_
    rintro e w4 ⟨v4,rfl,hv4,ho4,hm4,hf4⟩
    have hFl:(ansD mi.a.df f.bytes).F.length≤206:=ansD_F hfok.c
    have hFt:=ansD_txt (d:=mi.a.df) hok.a.d (t:=f.bytes)
    have htk:TkOk (na+206*i) (c+206*i) ⟨dfN mi.a f.bytes,mi.bad,mi.un,0⟩:=⟨df_ok hok.a hfok.c,hok.bd,hok.un⟩
    unfold tookN at HST
    generalize hFF:(ansD mi.a.df f.bytes).F=F at *
    obtain ⟨x0,hx0⟩:∃ x0:Tk,(⟨dfN mi.a f.bytes,mi.bad,mi.un,0⟩:Tk)=x0:=⟨_,rfl⟩
    have hm4':MN base B ⟨x0.s,lnN mi.b r,x0.bad,x0.un⟩ n w4 Kz:=by rw [← hx0];exact hm4
    have hg0:x0.good=0:=by rw [← hx0]
    rw [hx0] at HST htk
    obtain ⟨va,vc,rfl⟩:=hv4.form
    have KEEP:Hid (∀ y K',Fz (fun k=>k=B) Kz K' w4 y→y.cell? ⟨S1,0,none⟩=some (.pointer (some ⟨B,0,none⟩))∧y.cell? ⟨S1+1,0,none⟩=some (.pointer (some ⟨B,0,none⟩))∧y.cell? ⟨N,0,none⟩=some (.string f.text)∧HoldsF y (.slice va F.length vc) F∧KeepsFrom W2.heap.size W3 y∧Fz (fun k=>k=B∨k=l) K K' W2 y):=hide fun y K' hy=>by
     have h3:=hf4.trans hy
     have hall:=hf3.trans h3.two
     have hNy:y.heap[N]?=some (.cells #[.string f.text,.string f.bytes] 82):=(h3.same N (Array.getElem?_eq_some_iff.1 hN3).1 (hM3.noB hN3 fun c T e=>by injection e with _ e2;rw [← e2];decide) (fun e=>by have:=hown N e;omega)).trans hN3
     refine ⟨cell1L (uh HS1 _ _ hall),cell1L (uh HS2 _ _ hall),by rw [cr hNy];rfl,?_,h3.keepsN hM3 _,hall⟩
     rcases hv4 with ⟨ad,cp,e1,e2⟩ | ⟨g',cp,cur,e1,e2,e3⟩
     ·exact Or.inl ⟨ad,cp,e1,e2⟩
     ·refine Or.inr ⟨g',cp,cur,e1,(hy.same g' (Array.getElem?_eq_some_iff.1 e2).1 (typ_ne e2 (Classical.choose_spec hm4.row) (by decide)) (fun e=>?_)).trans e2,e3⟩
      have h5:=ho4 g' (by rw [e1];rfl)
      have:=(hM3.kk g' e).2.1
      omega
    have HM4:=hide hm4'
    have HTK:=hide htk
    have HFT:=hide hFt
    clear hv4 ho4 hm4 hf4 hm4' htk hFt hx0 hFF hM3 hf3 hN3 HS1 HS2 g1 g2 x1 hown
    generalize hq:F.length=q at *
    gi_wp2
    gi_loopw [7,17] (fun gd p wr=>∃ j:Nat,j≤q∧p=.int .i64 j∧gd=.int .i64 (((F.take j).foldl (take1 f.text) x0).good:Int)∧∃ K',MN base B ⟨((F.take j).foldl (take1 f.text) x0).s,lnN mi.b r,((F.take j).foldl (take1 f.text) x0).bad,((F.take j).foldl (take1 f.text) x0).un⟩ n wr K'∧Fz (fun k=>k=B) Kz K' w4 wr) (fun _ p _=>q - (intOf p).toNat)
    case atStart=>exact ⟨0,Nat.zero_le _,rfl,by show _=Value.int .i64 (x0.good:Int);rw [hg0];rfl,Kz,uh HM4,Fz.refl _ _ _⟩
    case round =>
     obtain ⟨j,hj,rfl,rfl,K9,hM9,hf9⟩:=hrel
     by_cases hlt:j<q
     ·have d1:(j:Int)<(q:Int):=by omega
      have hjF:j<F.length:=by omega
      have HST2:Hid ((F.take (j+1)).foldl (take1 f.text) x0=take1 f.text ((F.take j).foldl (take1 f.text) x0) F[j]):=hide (by
       rw [← List.take_append_getElem hjF,List.foldl_append]
       rfl)
      have hdt:F[j].text.length≤304:=uh HFT _ (List.getElem_mem hjF)
      have htj:TkOk (na+206*i+206) (c+206*i+206) ((F.take j).foldl (take1 f.text) x0):=(fold_ok f.text (F.take j) _ _ x0 (uh HTK)).mono (by rw [List.length_take];omega) (by rw [List.length_take];omega)
      have hgj:=fold_good f.text (F.take j) x0
      rw [List.length_take] at hgj
      obtain ⟨k1,k2,k3,k4,_,_⟩:=uh KEEP wr K9 hf9
      obtain ⟨g,eva,cur,q1,q3⟩:∃ g,va=some ⟨g,0,none⟩∧∃ cur,wr.heap[g]?=some (.cells cur 113)∧∀ j,j<F.length*2→cur[j]?=(fcells F)[j]?:=by
       rcases k4 with ⟨ad,cp,e,e2⟩ | ⟨g,cp,cur,e,q1,_,q3⟩
       ·rw [e2] at hq;simp at hq;omega
       ·injection e with e _ _
        exact ⟨g,e,cur,q1,fun j hj=>q3 j (by omega)⟩
      subst eva
      obtain ⟨y0,y1⟩:=fd_at q1 q3 hjF
      have hdk:(txt F[j].text).size≤304:=by rw [txt_size];exact hdt
      obtain ⟨d,hd⟩:∃ d,F[j]=d:=⟨_,rfl⟩
      rw [hd] at HST2 y0 y1 hdk
      obtain ⟨x,hx⟩:∃ x,(F.take j).foldl (take1 f.text) x0=x:=⟨_,rfl⟩
      rw [hx] at HST2 hM9 htj hgj ⊢
      have hbx:=htj.b
      have hux:=htj.u
      have hgx:x.good≤300:=by omega
      obtain ⟨kz,hkz⟩:∃ kz:Int,(d.kind:Int)=kz:=⟨_,rfl⟩
      rw [hkz] at y0
      have hN5:=heap_alloc_new wr (.cells #[.int .i64 kz,.string (txt d.text)] 113)
      have hb5:Below wr.heap.size wr (wr.alloc (.cells #[.int .i64 kz,.string (txt d.text)] 113)):=(Below.refl _ _).alloc (Nat.le_refl _) _
      have hM5:=hM9.step hb5
      obtain ⟨_,cb,cu⟩:=hM5.cnt
      have fb:=hM5.frz 29
      have fu:=hM5.frz 30
      have c3:=(hb5.cell (p:=⟨S1,0,none⟩) (World.block_lt_of_cell? _ _ k1)).trans k1
      have c5:=(hb5.cell (p:=⟨S1+1,0,none⟩) (World.block_lt_of_cell? _ _ k2)).trans k2
      have cN:=(hb5.cell (p:=⟨N,0,none⟩) (World.block_lt_of_cell? _ _ k3)).trans k3
      have c90:(wr.alloc (.cells #[.int .i64 kz,.string (txt d.text)] 113)).cell? ⟨wr.heap.size,0,none⟩=some (.int .i64 kz):=by rw [cr hN5];rfl
      have c91:(wr.alloc (.cells #[.int .i64 kz,.string (txt d.text)] 113)).cell? ⟨wr.heap.size,1,none⟩=some (.string (txt d.text)):=by rw [cr hN5];rfl
      have hf5:=hf9.trans (Fz.of_below hb5)
      have hlp:=htj.s
      have HM5:=hide (And.intro hM5 (And.intro hf5 hlp))
      have HN5:=hide hN5
      clear hM9 hf9 hb5 q1 q3 k1 k2 k3 k4 hd hx hM5 hf5 hgj htj hlp hN5
      have hwb:=wrap_i x.bad hbx.1 (by omega)
      have hwu:=wrap_i x.un hux.1 (by omega)
      have HW:=hide (And.intro hwb hwu)
      clear hwb hwu
      have HKZ:=hide hkz
      clear hkz
      by_cases hk1:d.kind=1
      ·have e1:(kz == 1)=true:=beq_iff_eq.2 (by have:=uh HKZ;omega)
       have e2:(kz != 1)=false:=by rw [bne,e1];rfl
       have hxg:x.s.gt.length≤1000000:=by have:=(uh HM5).2.2.g;omega
       have hxq:x.s.Q.length≤1048576:=by have:=(lpRt (uh HM5).2.2.p).l20;omega
       have hxt:(txt d.text).size≤8000:=by omega
       by_cases hun:0<x.good∨txt d.text≠f.text
       ·have HT1:=hide (take1_un (tx:=f.text) hk1 hun)
        have HMX:=hide (And.intro ((uh HM5).1.setUn (x.un+1)).1 ((uh HM5).2.1.trans ((uh HM5).1.setUn (x.un+1)).2))
        by_cases hg1:0<x.good
        ·clear hk1 hun
         have dg:(1:Int)<(x.good:Int)+1:=by omega
         gi_wp2
         refine ⟨trivial,?_⟩
         refine CallsIn.mono (CallsIn.inRound l (callsIn_wide.2 (iHearA (uh HMX).1 hxg hxq hxt))) ?_
         rintro e w6 ⟨rfl,K6,hm6,hf6⟩
         have HF6:=hide (And.intro hm6 ((uh HMX).2.trans hf6))
         clear hm6 hf6
         gi_wp2
         refine ⟨⟨j+1,by omega,by go_num,?_,K6,?_,?_⟩,by simp [intOf];omega⟩
         ·rw [uh HST2,uh HT1]
          simp
         ·rw [uh HST2,uh HT1]
          exact (uh HF6).1
         ·exact (uh HF6).2
        ·have dg:¬ ((1:Int)<(x.good:Int)+1):=by omega
         have e3:((txt d.text).toList == f.text.toList)=false:=beq_eq_false_iff_ne.2 fun e=>hun.resolve_left hg1 (by
          rw [ByteArray.toList_eq,ByteArray.toList_eq] at e
          exact ByteArray.ext (Array.ext' e))
         clear hk1 hun
         gi_wp2
         refine ⟨trivial,?_⟩
         refine CallsIn.mono (CallsIn.inRound l (callsIn_wide.2 (iHearA (uh HMX).1 hxg hxq hxt))) ?_
         rintro e w6 ⟨rfl,K6,hm6,hf6⟩
         have HF6:=hide (And.intro hm6 ((uh HMX).2.trans hf6))
         clear hm6 hf6
         gi_wp2
         refine ⟨⟨j+1,by omega,by go_num,?_,K6,?_,?_⟩,by simp [intOf];omega⟩
         ·rw [uh HST2,uh HT1]
          simp
         ·rw [uh HST2,uh HT1]
          exact (uh HF6).1
         ·exact (uh HF6).2
       ·have HT1:=hide (take1_ok1 (tx:=f.text) hk1 hun)
        have HMX:=hide (And.intro (uh HM5).1 (uh HM5).2.1)
        have dg:¬ ((1:Int)<(x.good:Int)+1):=by omega
        have het:txt d.text=f.text:=Classical.not_not.1 fun h=>hun (Or.inr h)
        clear hk1 hun
        obtain ⟨ft,fb⟩:=f
        dsimp only at *
        subst het
        gi_wp2
        refine ⟨trivial,?_⟩
        refine CallsIn.mono (CallsIn.inRound l (callsIn_wide.2 (iHearA (uh HMX).1 hxg hxq hxt))) ?_
        rintro e w6 ⟨rfl,K6,hm6,hf6⟩
        have HF6:=hide (And.intro hm6 ((uh HMX).2.trans hf6))
        clear hm6 hf6
        gi_wp2
        refine ⟨⟨j+1,by omega,by go_num,?_,K6,?_,?_⟩,by simp [intOf];omega⟩
        ·rw [uh HST2,uh HT1]
         simp
        ·rw [uh HST2,uh HT1]
         exact (uh HF6).1
        ·exact (uh HF6).2
      ·have e1:(kz == 1)=false:=beq_eq_false_iff_ne.2 (by have:=uh HKZ;omega)
       have e2:(kz != 1)=true:=by rw [bne,e1];rfl
       have HT1:=hide (take1_no (tx:=f.text) (x:=x) hk1)
       clear hk1
       gi_wp2
       refine ⟨⟨j+1,by omega,by go_num,?_,K9,?_,?_⟩,by simp [intOf];omega⟩
       ·rw [uh HST2,uh HT1]
       ·rw [uh HST2,uh HT1]
        exact ((uh HM5).1.setBad (x.bad+1)).1
       ·exact (uh HM5).2.1.trans ((uh HM5).1.setBad (x.bad+1)).2
     ·have e:j=q:=by omega
      subst e
      have d1:¬ ((j:Int)<(j:Int)):=by omega
      rw [show F.take j=F by rw [← hq];exact List.take_length] at hM9
      have HFI:Hid (KeepsFrom W2.heap.size W3 wr∧i+1≤m.b.ln.length∧∃ K3,MN base B mi1 n wr K3∧Fz (fun k=>k=B∨k=l) K K3 W2 wr):=hide (by
       obtain ⟨_,_,_,_,k5,k6⟩:=uh KEEP wr K9 hf9
       exact ⟨k5,h1q,K9,by rw [uh HST];exact hM9,k6⟩)
      clear hM9 hf9
      gi_wp2
      exact ⟨(uh HFI).1,(uh HFI).2.2⟩
end Go.Proofs.YtkcghhkkepndnaaGreatDoor
namespace Go.Proofs.YtkcghhkkepndnaaGreatDoor
open Go.RowKit
theorem MN.drw {base:Nat} {W:World} {B:Nat} {m:Nw} {n:Int} {K:Nat→Prop} (h:MN base B m n W K):MN base B m n W.drew K:=h.step (Below.refl _ _).drew
theorem one_B (m:Nw):timesN cmB (min 1 m.a.ln.length) m=cmB m:=by
 cases e:m.a.ln with
 | nil =>
  show m=_
  unfold cmB
  rw [e]
 | cons p r =>
  rw [show min 1 (p :: r).length=1 by simp]
  rfl
theorem one_A (m:Nw):timesN cmA (min 1 m.b.ln.length) m=cmA m:=by
 cases e:m.b.ln with
 | nil =>
  show m=_
  unfold cmA
  rw [e]
 | cons p r =>
  rw [show min 1 (p :: r).length=1 by simp]
  rfl
theorem wFollow {base:Nat} {W q:World} {B:Nat} {m:Nw} {n:Int} {qa la ga qb lb gb:Value} (h:Nt base W B m n qa la ga qb lb gb) (hG:m.a.gt.length≤1000000) {o:LO} {v vf vgo:Value} (oq:q.ownsRow W.heap.size 9 1 v o.Q.length (scells o.Q)) (os:q.ownsRow W.heap.size 96 4 vf o.sn.length (nbcells o.sn)) (og:q.ownsRow W.heap.size 9 1 vgo o.gt.length (scells o.gt))
  (ap:∀ g,v.ownBlock=some g→vgo.ownBlock≠some g) (lo:Below W.heap.size W q) (hF:Fine o) (hE:o.cd≠0→o.sn=[]∧o.gt=[]) :
  Calls Tryz.prog 38 #[.pointer (some ⟨B,0,none⟩),.agg (loC o.p v vf vgo o.cd)] q fun e W'=>e=.returned (.tuple #[])∧∃ K',MN base B ⟨followN m.a o,m.b,m.bad,m.un⟩ n W' K'∧Fz (fun k=>k=B) (K4 la ga lb gb) K' W W':=by
 have hq:=h.step lo
 refine (iFollowN hq.sa hq.lo hq.bB (b:=W.heap.size) h.sa.bs ⟨oq,os,og⟩ ap (fun g hg=>(h.sa.kk g hg).2.1) hF hE hG).mono ?_
 rintro e W' ⟨rfl,vq',vl',vg',h1,h2,h3⟩
 have hf:=(Fz.of_below lo).trans h2
 refine ⟨rfl,_,⟨_,_,_,_,_,_,h.setA h1 hf (h3.imp id fun e g hg=>?_),rfl⟩,hf.wide (K2 lb gb)⟩
 rw [e] at hg
 exact (own_typ oq g hg).1
set_option maxHeartbeats 4000000 in
set_option maxRecDepth 100000 in
theorem iSendNext {base:Nat} {W:World} {B:Nat} {m:Nw} {n:Int} {K:Nat→Prop} (h:MN base B m n W K) (hG:m.a.gt.length≤1000000) (hq:m.a.Q.length≤1048576) :
  Calls Tryz.prog 40 #[.pointer (some ⟨B,0,none⟩)] W fun e W'=>e=.returned (.tuple #[])∧∃ K',MN base B (sendNextN m) n W' K'∧Fz (fun k=>k=B) K K' W W':=by
 obtain ⟨qa,la,ga,qb,lb,gb,h,rfl⟩:=h
 have hd:=h.step (Below.refl W.heap.size W).drew
 obtain ⟨qad,qc,rfl⟩:=own_form h.sa.hq
 have rg:W.drew.rangeAt B 0 (lpC m.a.p (.slice qad m.a.Q.length qc)).toList:=hd.sa.lp
 have CN:=hide (iNextL m.a.p qad qc m.a.Q W.drew hq (HoldsT.own hd.sa.hq).s)
 have hfine:=fine_next m.a.p m.a.Q
 have hoe:(nextF m.a.p m.a.Q).cd≠0→(nextF m.a.p m.a.Q).sn=[]∧(nextF m.a.p m.a.Q).gt=[]:=by
  unfold nextF
  split
  ·exact fun h=>absurd rfl h
  ·exact fun _=>⟨rfl,rfl⟩
 have HD:=hide hd
 unfold sendNextN
 generalize nextF m.a.p m.a.Q=o at *
 have HX:=hide (And.intro hfine hoe)
 clear h hd hfine hoe
 go_enter Tryz.func40,Tryz.ntmps40
 go_upto_region 0 with fail
 refine wp_region_held_drew (S:=fun _=>True) (by kernel_rfl) trivial (fun hHeld=>?_)
 refine t2 0 ?_
 refine t2 1 ?_
 refine t2 2 ?_
 refine t2 3 ?_
 refine t2 4 ?_
 refine t2 5 ?_
 refine t2 6 ?_
 refine r1 7 rfl (fun K hK=>?_)
 rw [if_pos (by rfl)]
 refine wp_load_mid 54 (.tmp 8) rfl B 0 rfl (lpC m.a.p (.slice qad m.a.Q.length qc)).toList _ rg Tryz.underlying54 rfl (by exact infoL6) ?_
 refine ro hK trivial fun _=>?_
 clear hK K
 refine r1 8 rfl (fun K hK=>?_)
 go_simp
 refine (uh CN).mono ?_
 rintro e q ⟨v,vf,vgo,rfl,h1,h2,h3,h4,h5⟩
 have CF:=hide (wFollow (uh HD) hG h1 h2 h3 h4 h5 (uh HX).1 (uh HX).2)
 clear h1 h2 h3 h4 h5 CN
 refine ro hK trivial fun _=>?_
 clear hK K
 refine r1 9 rfl (fun K hK=>?_)
 go_simp
 refine (uh CF).mono ?_
 rintro e W' ⟨rfl,K',hm,hf⟩
 have HF:=hide (And.intro hm hf)
 clear hm hf CF
 refine ro hK trivial fun _=>?_
 clear hK K
 refine dn ?_ _
 go_wp2_with fail
 refine bodyPost_end (results_none rfl _ _ _) rfl ?_
 exact ⟨rfl,K',(uh HF).1,(Fz.of_below (Below.refl W.heap.size W).drew).trans (uh HF).2⟩
set_option maxHeartbeats 4000000 in
set_option maxRecDepth 100000 in
theorem iSendAgain {base:Nat} {W:World} {B:Nat} {m:Nw} {n:Int} {K:Nat→Prop} (h:MN base B m n W K) (hG:m.a.gt.length≤1000000) (hq:m.a.Q.length≤1048576) :
  Calls Tryz.prog 46 #[.pointer (some ⟨B,0,none⟩)] W fun e W'=>e=.returned (.tuple #[])∧∃ K',MN base B (sendAgainN m) n W' K'∧Fz (fun k=>k=B) K K' W W':=by
 obtain ⟨qa,la,ga,qb,lb,gb,h,rfl⟩:=h
 have hd:=h.step (Below.refl W.heap.size W).drew
 obtain ⟨qad,qc,rfl⟩:=own_form h.sa.hq
 have rg:W.drew.rangeAt B 0 (lpC m.a.p (.slice qad m.a.Q.length qc)).toList:=hd.sa.lp
 have CN:=hide (iAgain m.a.p qad qc m.a.Q W.drew hq (HoldsT.own hd.sa.hq).s)
 have hfine:=fine_again m.a.p m.a.Q
 have hoe:(againF m.a.p m.a.Q).cd≠0→(againF m.a.p m.a.Q).sn=[]∧(againF m.a.p m.a.Q).gt=[]:=by
  unfold againF
  split
  ·exact fun h=>absurd rfl h
  ·exact fun _=>⟨rfl,rfl⟩
 have HD:=hide hd
 unfold sendAgainN
 generalize againF m.a.p m.a.Q=o at *
 have HX:=hide (And.intro hfine hoe)
 clear h hd hfine hoe
 go_enter Tryz.func46,Tryz.ntmps46
 go_upto_region 0 with fail
 refine wp_region_held_drew (S:=fun _=>True) (by kernel_rfl) trivial (fun hHeld=>?_)
 refine t2 0 ?_
 refine t2 1 ?_
 refine t2 2 ?_
 refine t2 3 ?_
 refine t2 4 ?_
 refine t2 5 ?_
 refine t2 6 ?_
 refine r1 7 rfl (fun K hK=>?_)
 rw [if_pos (by rfl)]
 refine wp_load_mid 54 (.tmp 8) rfl B 0 rfl (lpC m.a.p (.slice qad m.a.Q.length qc)).toList _ rg Tryz.underlying54 rfl (by exact infoL6) ?_
 refine ro hK trivial fun _=>?_
 clear hK K
 refine r1 8 rfl (fun K hK=>?_)
 go_simp
 refine (uh CN).mono ?_
 rintro e q ⟨v,vf,vgo,rfl,h1,h2,h3,h4,h5⟩
 have CF:=hide (wFollow (uh HD) hG h1 h2 h3 h4 h5 (uh HX).1 (uh HX).2)
 clear h1 h2 h3 h4 h5 CN
 refine ro hK trivial fun _=>?_
 clear hK K
 refine r1 9 rfl (fun K hK=>?_)
 go_simp
 refine (uh CF).mono ?_
 rintro e W' ⟨rfl,K',hm,hf⟩
 have HF:=hide (And.intro hm hf)
 clear hm hf CF
 refine ro hK trivial fun _=>?_
 clear hK K
 refine dn ?_ _
 go_wp2_with fail
 refine bodyPost_end (results_none rfl _ _ _) rfl ?_
 exact ⟨rfl,K',(uh HF).1,(Fz.of_below (Below.refl W.heap.size W).drew).trans (uh HF).2⟩
set_option maxHeartbeats 4000000 in
set_option maxRecDepth 100000 in
theorem iComeB {base:Nat} {W:World} {B:Nat} {m:Nw} {n:Int} {K:Nat→Prop} (h:MN base B m n W K) {na nb c:Nat} (ok:NwOk na nb c m) (hn:nb≤990000) (hcc:c≤100000000) :
  Calls Tryz.prog 41 #[.pointer (some ⟨B,0,none⟩)] W fun e W'=>e=.returned (.tuple #[])∧∃ K',MN base B (cmB m) n W' K'∧Fz (fun k=>k=B) K K' W W':=by
 have CC:=hide (iCome B 6 1 W.drew)
 have CH:=hide fun (q:World) (C1 C2:Nat) (hb:Below W.drew.heap.size W.drew q) (b1:q.heap[C1]?=some (.cells #[.int .i64 ((1:Nat):Int)] 3)) (b2:q.heap[C2]?=some (.cells #[.pointer (some ⟨B,6,none⟩)] 108))=>iTakeB (h.drw.step hb) ok hn hcc b1 b2
 rw [one_B] at CH
 clear h
 go_enter Tryz.func41,Tryz.ntmps41
 go_upto_region 0 with fail
 refine wp_region_held_drew (S:=fun _=>True) (by kernel_rfl) trivial (fun hHeld=>?_)
 refine t2 0 ?_
 refine t2 1 ?_
 refine t2 2 ?_
 refine t2 3 ?_
 refine t2 4 ?_
 refine t2 6 ?_
 refine t2 7 ?_
 refine t2 8 ?_
 refine r1 5 rfl (fun K hK=>?_)
 have CC':Calls Tryz.prog 63 #[.pointer (some ⟨B,6,none⟩),.int .i64 1] W.drew fun e W'=>AnI B 6 1 W.drew e W':=uh CC
 go_simp
 refine CC'.mono ?_
 rintro e q ⟨C1,C2,rfl,b1,b2,hb,_,_⟩
 have HQ:=hide (uh CH q C1 C2 hb b1 b2)
 have HB:=hide hb
 clear CC CC' CH b1 b2 hb
 refine ro hK trivial fun _=>?_
 clear hK K
 refine r1 9 rfl (fun K hK=>?_)
 go_simp
 refine (uh HQ).mono ?_
 rintro e W' ⟨rfl,K',hm,hf⟩
 have HF:=hide (And.intro hm hf)
 clear hm hf HQ
 refine ro hK trivial fun _=>?_
 clear hK K
 refine dn ?_ _
 go_wp2_with fail
 refine bodyPost_end (results_none rfl _ _ _) rfl ?_
 exact ⟨rfl,K',(uh HF).1,(Fz.of_below ((Below.refl W.heap.size W).drew.trans (uh HB))).trans (uh HF).2⟩
set_option maxHeartbeats 4000000 in
set_option maxRecDepth 100000 in
theorem iComeA {base:Nat} {W:World} {B:Nat} {m:Nw} {n:Int} {K:Nat→Prop} (h:MN base B m n W K) {na nb c:Nat} (ok:NwOk na nb c m) (hn:na≤990000) (hcc:c≤100000000) :
  Calls Tryz.prog 45 #[.pointer (some ⟨B,0,none⟩)] W fun e W'=>e=.returned (.tuple #[])∧∃ K',MN base B (cmA m) n W' K'∧Fz (fun k=>k=B) K K' W W':=by
 have CC:=hide (iCome B 20 1 W.drew)
 have CH:=hide fun (q:World) (C1 C2:Nat) (hb:Below W.drew.heap.size W.drew q) (b1:q.heap[C1]?=some (.cells #[.int .i64 ((1:Nat):Int)] 3)) (b2:q.heap[C2]?=some (.cells #[.pointer (some ⟨B,20,none⟩)] 108))=>iTakeA (h.drw.step hb) ok hn hcc b1 b2
 rw [one_A] at CH
 clear h
 go_enter Tryz.func45,Tryz.ntmps45
 go_upto_region 0 with fail
 refine wp_region_held_drew (S:=fun _=>True) (by kernel_rfl) trivial (fun hHeld=>?_)
 refine t2 0 ?_
 refine t2 1 ?_
 refine t2 2 ?_
 refine t2 3 ?_
 refine t2 4 ?_
 refine t2 6 ?_
 refine t2 7 ?_
 refine t2 8 ?_
 refine r1 5 rfl (fun K hK=>?_)
 have CC':Calls Tryz.prog 63 #[.pointer (some ⟨B,20,none⟩),.int .i64 1] W.drew fun e W'=>AnI B 20 1 W.drew e W':=uh CC
 go_simp
 refine CC'.mono ?_
 rintro e q ⟨C1,C2,rfl,b1,b2,hb,_,_⟩
 have HQ:=hide (uh CH q C1 C2 hb b1 b2)
 have HB:=hide hb
 clear CC CC' CH b1 b2 hb
 refine ro hK trivial fun _=>?_
 clear hK K
 refine r1 9 rfl (fun K hK=>?_)
 go_simp
 refine (uh HQ).mono ?_
 rintro e W' ⟨rfl,K',hm,hf⟩
 have HF:=hide (And.intro hm hf)
 clear hm hf HQ
 refine ro hK trivial fun _=>?_
 clear hK K
 refine dn ?_ _
 go_wp2_with fail
 refine bodyPost_end (results_none rfl _ _ _) rfl ?_
 exact ⟨rfl,K',(uh HF).1,(Fz.of_below ((Below.refl W.heap.size W).drew.trans (uh HB))).trans (uh HF).2⟩
theorem iLoseA {base:Nat} {W:World} {B:Nat} {m:Nw} {n:Int} {K:Nat→Prop} (h:MN base B m n W K) :
  Calls Tryz.prog 42 #[.pointer (some ⟨B,6,none⟩)] W fun e W'=>e=.returned (.tuple #[])∧∃ K',MN base B ⟨lnN m.a m.a.ln.tail,m.b,m.bad,m.un⟩ n W' K'∧Fz (fun k=>k=B) K K' W W':=by
 obtain ⟨qa,la,ga,qb,lb,gb,h,rfl⟩:=h
 refine (iLose h.sa.wr).mono ?_
 rintro e W' ⟨rfl,v',hw,hf⟩
 exact ⟨rfl,_,⟨_,_,_,_,_,_,h.setA (h.sa.setLine hf hw) (Fz.line ga hf) (Or.inl rfl),rfl⟩,(Fz.line ga hf).wide (K2 lb gb)⟩
theorem iLoseB {base:Nat} {W:World} {B:Nat} {m:Nw} {n:Int} {K:Nat→Prop} (h:MN base B m n W K) :
  Calls Tryz.prog 42 #[.pointer (some ⟨B,20,none⟩)] W fun e W'=>e=.returned (.tuple #[])∧∃ K',MN base B ⟨m.a,lnN m.b m.b.ln.tail,m.bad,m.un⟩ n W' K'∧Fz (fun k=>k=B) K K' W W':=by
 obtain ⟨qa,la,ga,qb,lb,gb,h,rfl⟩:=h
 refine (iLose h.sb.wr).mono ?_
 rintro e W' ⟨rfl,v',hw,hf⟩
 exact ⟨rfl,_,⟨_,_,_,_,_,_,h.setB (h.sb.setLine hf hw) (Fz.line gb hf) (Or.inl rfl),rfl⟩,(Fz.line gb hf).wide' (K2 la ga)⟩
theorem iDblA {base:Nat} {W:World} {B:Nat} {m:Nw} {n:Int} {K:Nat→Prop} (h:MN base B m n W K) :
  Calls Tryz.prog 43 #[.pointer (some ⟨B,6,none⟩)] W fun e W'=>e=.returned (.tuple #[])∧∃ K',MN base B ⟨lnN m.a (dbl m.a.ln),m.b,m.bad,m.un⟩ n W' K'∧Fz (fun k=>k=B) K K' W W':=by
 obtain ⟨qa,la,ga,qb,lb,gb,h,rfl⟩:=h
 refine (iDouble h.sa.wr).mono ?_
 rintro e W' ⟨rfl,v',hw,hf⟩
 exact ⟨rfl,_,⟨_,_,_,_,_,_,h.setA (h.sa.setLine hf hw) (Fz.line ga hf) (Or.inl rfl),rfl⟩,(Fz.line ga hf).wide (K2 lb gb)⟩
theorem HoldsK.turn {W:World} {base g o cp:Nat} {f:Sf} {r:List Sf} (h:HoldsK W base (.slice (some ⟨g,o,none⟩) (r.length+1) cp) (f :: r)) (t:ByteArray):HoldsK (W.setCell ⟨g,o+1,none⟩ (.string t)) base (.slice (some ⟨g,o,none⟩) (r.length+1) cp) (⟨f.text,t⟩ :: r):=by
 rcases h with ⟨e,_⟩ | ⟨g',o',cp',cur,e,h2,h3,h4,h5,h6⟩
 ·cases e
 ·injection e with e e1 e2
  injection e with e
  injection e with e3 e4
  subst e2 e3 e4
  refine Or.inr ⟨g,o,cp,cur.setIfInBounds (o+1) (.string t),rfl,heap_setCell_same _ _ _ _ _ _ h2,h3,h4,by rw [Array.size_setIfInBounds];exact h5,fun j hj=>?_⟩
  have h7:=h6 j (by simpa using hj)
  by_cases e:j=1
  ·subst e
   have hs:o+1<cur.size:=by simp at h4;omega
   rw [Array.getElem?_setIfInBounds_self,if_pos hs]
   rfl
  ·rw [Array.getElem?_setIfInBounds_ne (by omega),h7]
   rcases j with _ | _ | j
   ·rfl
   ·exact absurd rfl e
   ·rfl
theorem MN.first {base:Nat} {W:World} {B:Nat} {m:Nw} {n:Int} {K:Nat→Prop} (h:MN base B m n W K):∃ ad cp,W.cell? ⟨B,6,none⟩=some (.slice ad m.a.ln.length cp):=by
 obtain ⟨qa,la,ga,qb,lb,gb,h,rfl⟩:=h
 obtain ⟨ad,cp,e⟩:=h.sa.hl.form
 have:=cell_blk h.sa.wr.row
 rw [e] at this
 exact ⟨ad,cp,this⟩
theorem MN.spoil {base:Nat} {W:World} {B:Nat} {m:Nw} {n:Int} {K:Nat→Prop} (h:MN base B m n W K) {f:Sf} {r:List Sf} (e:m.a.ln=f :: r):∃ g o cp,W.cell? ⟨B,6,none⟩=some (.slice (some ⟨g,o,none⟩) (r.length+1) (cp+1))∧g<W.heap.size∧g≠B∧W.cell? ⟨g,o+1,none⟩=some (.string f.bytes)∧W.frozen? ⟨g,o+1,none⟩=false ∧
  ∀ W1 t,Below W.heap.size W W1→MN base B ⟨lnN m.a (⟨f.text,t⟩ :: r),m.b,m.bad,m.un⟩ n (W1.setCell ⟨g,o+1,none⟩ (.string t)) K∧Fz (fun k=>k=B) K K W (W1.setCell ⟨g,o+1,none⟩ (.string t)):=by
 obtain ⟨qa,la,ga,qb,lb,gb,h,rfl⟩:=h
 have hl:=h.sa.hl
 rw [e] at hl
 obtain ⟨g,o,cp,hv,h1,h2,_⟩:=hl.first
 subst hv
 have hc:=cell_blk h.sa.wr.row
 obtain ⟨nB,hbg,hlt,cur,hcur⟩:=h.sa.wr.ownB g rfl
 refine ⟨g,o,cp,hc,hlt,nB,h2,Go.Proofs.YtkcghhkkepndnaaGreatDoor.frz hcur _,fun W1 t hb=>?_⟩
 have h':=h.step hb
 have hl':=h'.sa.hl
 rw [e] at hl'
 have ht:=hl'.turn t
 have hcur':W1.heap[g]?=some (.cells cur 82):=(hb.block g hlt).trans hcur
 have ot:∀ k,k≠g→(W1.setCell ⟨g,o+1,none⟩ (.string t)).heap[k]?=W1.heap[k]?:=fun k hk=>heap_setCell_other _ _ _ _ hk
 have hz:=((Below.refl 0 W1).setCell (p:=⟨g,o+1,none⟩) (Nat.zero_le _) (.string t))
 have ks:∀ {e:TypeId} {size k:Nat} {u:Value} {xs:List Value},e≠82→W1.ownsRow base e size u k xs→(W1.setCell ⟨g,o+1,none⟩ (.string t)).ownsRow base e size u k xs:=fun he hu=>own_blk hu fun g' c' _ hg'=>ot g' (typ_ne hg' hcur' he)
 have hrow:(W1.setCell ⟨g,o+1,none⟩ (.string t)).heap[B]?=W1.heap[B]?:=ot B (fun e=>nB e.symm)
 have hf:Fz (fun k=>k=B) (K2 (.slice (some ⟨g,o,none⟩) (r.length+1) (cp+1)) ga) (K2 (.slice (some ⟨g,o,none⟩) (r.length+1) (cp+1)) ga) W1 (W1.setCell ⟨g,o+1,none⟩ (.string t)) :=
  ⟨hz.os,hz.tape,hz.output,hz.size,fun k _ _ h2=>ot k (fun e=>h2 (Or.inl (by rw [e];rfl))),fun _ hg=>Or.inl hg⟩
 have hs:Sn base (W1.setCell ⟨g,o+1,none⟩ (.string t)) B [] (slC m.b.p qb lb m.b.df gb ++ nwC n m.bad m.un) (lnN m.a (⟨f.text,t⟩ :: r)) qa (.slice (some ⟨g,o,none⟩) (r.length+1) (cp+1)) ga :=
  ⟨hrow.trans h'.sa.row,ks (by decide) h'.sa.hq,ht,ks (by decide) h'.sa.hg,h'.sa.ap,by have:=h'.sa.le;rw [e] at this;exact this,Nat.le_trans h'.sa.bs hz.size⟩
 exact ⟨⟨_,_,_,_,_,_,h'.setA hs hf (Or.inl rfl),rfl⟩,(Fz.of_below hb).trans (hf.wide (K2 lb gb))⟩
set_option maxHeartbeats 4000000 in
set_option maxRecDepth 100000 in
theorem iSpoil {base:Nat} {W:World} {B:Nat} {m:Nw} {k:Nat} {K:Nat→Prop} (h:MN base B m (k:Int) W K) (hk:(k:Int)≤9223372036854775807) {na nb c:Nat} (ok:NwOk na nb c m) :
  Calls Tryz.prog 44 #[.pointer (some ⟨B,0,none⟩)] W fun e W'=>e=.returned (.tuple #[])∧∃ K',MN base B (spoilN m (k:Int)) (k:Int) W' K'∧Fz (fun k=>k=B) K K' W W':=by
 have H0:=hide h
 cases e:m.a.ln with
 | nil =>
  obtain ⟨ad,cp,hc⟩:=h.first
  rw [e] at hc
  have hs:spoilN m (k:Int)=m:=by unfold spoilN;rw [e]
  rw [hs]
  have hc':W.cell? ⟨B,6,none⟩=some (.slice ad 0 cp):=hc
  clear h hc
  go_enter Tryz.func44,Tryz.ntmps44
  go_wp2_with fail
  refine bodyPost_end (results_none rfl _ _ _) rfl ?_
  exact ⟨rfl,K,uh H0,Fz.refl _ _ _⟩
 | cons f r =>
  have hfok:SfOk f:=ok.a.f f (by rw [e];exact List.mem_cons_self ..)
  have hs:spoilN m (k:Int)=⟨lnN m.a (⟨f.text,turnV f.bytes k⟩ :: r),m.b,m.bad,m.un⟩:=by unfold spoilN;rw [e];rfl
  rw [hs]
  have hd:=h.drw
  obtain ⟨g,o,cp,c1,hgl,hgB,c2,f2,hset⟩:=hd.spoil e
  have cn:=hd.cnt.1
  have CT:=hide (iTurnBit (W:=W.drew) (g:=g) (o:=o) k hk hfok.b hfok.c hgl c2 f2)
  have HSET:=hide fun W1 t hb=>hset W1 t hb
  have c1W:W.cell? ⟨B,6,none⟩=some (.slice (some ⟨g,o,none⟩) (r.length+1) (cp+1)):=c1
  have hrl:r.length≤40:=by have:=ok.a.l;rw [e] at this;simp at this;omega
  have HS2:Hid (∀ W1 t,Below W.drew.heap.size W.drew W1→(W1.setCell ⟨g,o+1,none⟩ (.string t)).cell? ⟨B,6,none⟩=some (.slice (some ⟨g,o,none⟩) (r.length+1) (cp+1))∧(W1.setCell ⟨g,o+1,none⟩ (.string t)).cell? ⟨B,28,none⟩=some (.int .i64 (k:Int))):=hide fun W1 t hb=>by
   have e1:∀ i,(W1.setCell ⟨g,o+1,none⟩ (.string t)).cell? ⟨B,i,none⟩=W1.cell? ⟨B,i,none⟩:=fun i=>World.cell?_setCell_other _ _ _ _ (fun e=>hgB (congrArg Addr.block e))
   rw [e1,e1]
   exact ⟨(hb.cell (p:=⟨B,6,none⟩) (World.block_lt_of_cell? _ _ c1)).trans c1,(hb.cell (p:=⟨B,28,none⟩) (World.block_lt_of_cell? _ _ cn)).trans cn⟩
  clear hset c2 f2 hd h
  go_enter Tryz.func44,Tryz.ntmps44
  go_upto_region 1 with fail
  refine wp_region_held_drew (S:=fun z=>z.cell? ⟨B,6,none⟩=some (.slice (some ⟨g,o,none⟩) (r.length+1) (cp+1))∧z.cell? ⟨B,28,none⟩=some (.int .i64 (k:Int))) (by kernel_rfl) ⟨c1,cn⟩ (fun hHeld=>?_)
  refine t2 0 ?_
  refine t2 1 ?_
  refine t2 2 ?_
  refine t2 3 ?_
  refine t2 4 ?_
  refine t2 5 ?_
  refine t2 6 ?_
  refine t2 7 ?_
  refine t2 8 ?_
  refine t2 9 ?_
  refine t2 10 ?_
  refine r1 11 rfl (fun K hK=>?_)
  go_simp
  refine (uh CT).mono ?_
  rintro e9 W' ⟨rfl,W1,hb1,rfl⟩
  have HM:=hide (uh HSET W1 (turnV f.bytes k) hb1)
  have hS9:=uh HS2 W1 (turnV f.bytes k) hb1
  clear CT HSET HS2 hb1 hHeld
  generalize W1.setCell ⟨g,o+1,none⟩ (.string (turnV f.bytes k))=W9 at HM hS9 ⊢
  refine ro hK hS9 fun _=>?_
  clear hK K
  refine dn ?_ _
  go_wp2_with fail
  refine bodyPost_end (results_none rfl _ _ _) rfl ?_
  exact ⟨rfl,_,(uh HM).1,(Fz.of_below (Below.refl W.heap.size W).drew).trans (uh HM).2⟩
end Go.Proofs.YtkcghhkkepndnaaGreatDoor
