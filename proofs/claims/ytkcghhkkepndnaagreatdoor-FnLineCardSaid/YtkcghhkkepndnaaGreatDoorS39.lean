/- The model turns a bit of the first frame of the first end's line; what lay in memory stands but for the world; no condition but those named. The program's world of a numbered line settles: a hundred times all that is on its way comes; what lay in memory stands but for the two ends and their rows; no condition but those named. A numbered line, whatever is lost, comes twice or has bits turned: the first of the texts are got, each once, in order, while nothing false is found; and all of them when all is let come so often. Plain mathematics. The drawer's bytes once more, said so that a caller may keep memory above the drawer: of the old blocks the drawer's alone is turned; no condition. -/
import Derived.Test.YtkcghhkkepndnaaGreatDoorS35
import Derived.Test.YtkcghhkkepndnaaGreatDoorS31
import Derived.Deep.WholeRow
import Derived.Test.YtkcghhkkepndnaaGreatDoorS38
import Derived.Test.YtkcghhkkepndnaaGreatDoorS33
import Derived.Test.YtkcghhkkepndnaaGreatDoorS15
import Derived.Test.YtkcghhkkepndnaaGreatDoorS23
import Derived.Test.YtkcghhkkepndnaaGreatDoorShW
namespace Go.Proofs.YtkcghhkkepndnaaGreatDoor
open Go.RowKit
theorem HoldsKm.turn {W:World} {base g o cp:Nat} {f:Sf} {r:List Sf} (h:HoldsKm W base (.slice (some ⟨g,o,none⟩) (r.length+1) cp) (f :: r)) (t:ByteArray):HoldsKm (W.setCell ⟨g,o,none⟩ (.string t)) base (.slice (some ⟨g,o,none⟩) (r.length+1) cp) (⟨f.text,t⟩ :: r):=by
 rcases h with ⟨e,_⟩ | ⟨g',o',cp',cur,e,h2,h3,h4,h5,h6⟩
 ·cases e
 ·injection e with e e1 e2
  injection e with e
  injection e with e3 e4
  subst e2 e3 e4
  refine Or.inr ⟨g,o,cp,cur.setIfInBounds o (.string t),rfl,heap_setCell_same _ _ _ _ _ _ h2,h3,h4,by rw [Array.size_setIfInBounds];exact h5,fun j hj=>?_⟩
  have h7:=h6 j (by simpa using hj)
  by_cases e:j=0
  ·subst e
   have hs:o<cur.size:=by simp at h4;omega
   rw [Nat.add_zero,Array.getElem?_setIfInBounds_self,if_pos hs]
   rfl
  ·rw [Array.getElem?_setIfInBounds_ne (by omega),h7]
   rcases j with _ | _ | j
   ·exact absurd rfl e
   ·rfl
   ·rfl
theorem Mlw.spoil {base:Nat} {W:World} {Sa Sb Ww:Nat} {m:Nw} {qa la qb lb gv:Value} (h:Mlw base W Sa Sb Ww m qa la qb lb gv) {f:Sf} {r:List Sf} (e:m.a.ln=f :: r):∃ g o cp,la=.slice (some ⟨g,o,none⟩) (r.length+1) (cp+1)∧g<W.heap.size∧g≠Sa∧g≠Ww∧W.cell? ⟨g,o,none⟩=some (.string f.bytes)∧W.frozen? ⟨g,o,none⟩=false ∧
  ∀ W1 t,Below W.heap.size W W1→Mlw base (W1.setCell ⟨g,o,none⟩ (.string t)) Sa Sb Ww ⟨lnN m.a (⟨f.text,t⟩ :: r),m.b,m.bad,m.un⟩ qa la qb lb gv∧Fz (E3 Sa Sb Ww) (K3 la lb gv) (K3 la lb gv) W (W1.setCell ⟨g,o,none⟩ (.string t)):=by
 have hl:=h.a.hl
 rw [e] at hl
 obtain ⟨g,o,cp,hv,h1,h2,_⟩:=hl.first
 subst hv
 obtain ⟨hbg,hlt,cur,hcur⟩:=h.a.hl.blk g rfl
 refine ⟨g,o,cp,rfl,hlt,typ_ne hcur h.a.row (by decide),typ_ne hcur h.w (by decide),h1,Go.Proofs.YtkcghhkkepndnaaGreatDoor.frz hcur _,fun W1 t hb=>?_⟩
 have h':=h.step hb
 have hl':=h'.a.hl
 rw [e] at hl'
 have ht:=hl'.turn t
 have hcur':W1.heap[g]?=some (.cells cur 93):=(hb.block g hlt).trans hcur
 have ot:∀ k,k≠g→(W1.setCell ⟨g,o,none⟩ (.string t)).heap[k]?=W1.heap[k]?:=fun k hk=>heap_setCell_other _ _ _ _ hk
 have hz:=((Below.refl 0 W1).setCell (p:=⟨g,o,none⟩) (Nat.zero_le _) (.string t))
 have hrow:(W1.setCell ⟨g,o,none⟩ (.string t)).heap[Sa]?=W1.heap[Sa]?:=ot Sa (fun e=>typ_ne hcur h.a.row (by decide) e.symm)
 have hf:Fz (fun k=>k=Sa) (Kv (.slice (some ⟨g,o,none⟩) (r.length+1) (cp+1))) (Kv (.slice (some ⟨g,o,none⟩) (r.length+1) (cp+1))) W1 (W1.setCell ⟨g,o,none⟩ (.string t)) :=
  ⟨hz.os,hz.tape,hz.output,hz.size,fun k _ _ h2=>ot k (fun e=>h2 (by rw [e];rfl)),fun _ hg=>Or.inl hg⟩
 have hs:Sm base (W1.setCell ⟨g,o,none⟩ (.string t)) Sa (lnN m.a (⟨f.text,t⟩ :: r)) qa (.slice (some ⟨g,o,none⟩) (r.length+1) (cp+1)) :=
  ⟨hrow.trans h'.a.row,h'.a.hq.other (fun g' cur' _ hg'=>ot g' (typ_ne hg' hcur' (by decide))),fun g' hg'=>⟨(h'.a.qo g' hg').1,Nat.lt_of_lt_of_le (h'.a.qo g' hg').2 hz.size⟩,ht,by have:=h'.a.le;rw [e] at this;exact this,Nat.le_trans h'.a.bs hz.size⟩
 obtain ⟨q1,q2⟩:=h'.setA hs hf (Or.inl rfl)
 exact ⟨q1,(Fz.of_below hb).trans q2⟩
theorem wrap_u (q:Nat):IntKind.u64.wrap ((q:Int) % 8)=(q:Int) % 8:=by
 have h0:0≤(q:Int) % 8:=by omega
 have h1:(q:Int) % 8<8:=by omega
 generalize (q:Int) % 8=x at *
 simp only [IntKind.wrap,IntKind.bits,IntKind.signed]
 simp
 omega
set_option linter.unusedSimpArgs false in
set_option maxHeartbeats 4000000 in
set_option maxRecDepth 100000 in
theorem sTurn {base:Nat} {W:World} {Sa Sb Ww:Nat} {m:Nw} {K:Nat→Prop} (h:MS base Sa Sb Ww m W K) {na nb c:Nat} (ok:NwOk na nb c m) (n:Nat) (_hn:(n:Int)≤9223372036854775807) :
  Calls Tryz.prog 53 #[.pointer (some ⟨Ww,0,none⟩),.int .i64 (n:Int)] W fun e W'=>e=.returned (.tuple #[])∧∃ K',MS base Sa Sb Ww (spoilN m (n:Int)) W' K'∧Fz (E3 Sa Sb Ww) K K' W W':=by
 obtain ⟨qa,la,qb,lb,gv,h,rfl⟩:=h
 have c12:=h.a.cl.1
 have cA:=h.cells.1
 obtain ⟨lad,lac,hla⟩:=h.a.hl.form
 cases e:m.a.ln with
 | nil =>
  have hs:spoilN m (n:Int)=m:=by unfold spoilN;rw [e]
  rw [e] at hla
  rw [hs]
  have c12':W.cell? ⟨Sa,12,none⟩=some (.slice lad 0 lac):=by rw [c12,hla];rfl
  have H:=hide h
  clear h c12 hla
  go_enter Tryz.func53,Tryz.ntmps53
  go_wp2_with fail
  refine bodyPost_ret (results_none rfl _ _ _) rfl ?_
  exact ⟨rfl,_,⟨_,_,_,_,_,uh H,rfl⟩,Fz.refl _ _ _⟩
 | cons f r =>
  clear _hn
  have hfok:SfOk f:=ok.a.f f (by rw [e];exact List.mem_cons_self ..)
  have hs:spoilN m (n:Int)=⟨lnN m.a (⟨f.text,turnV f.bytes n⟩ :: r),m.b,m.bad,m.un⟩:=by unfold spoilN;rw [e];rfl
  rw [hs]
  have hr40:r.length≤40:=by have:=ok.a.l;rw [e] at this;simp at this;omega
  obtain ⟨g,o,cp,hv,hgl,hgS,hgW,hc0,hf0,hset⟩:=h.spoil e
  have HSET:=hide hset
  rw [hv] at c12
  have u1:=hfok.b
  have u2:=hfok.c
  obtain ⟨u,hu⟩:∃ u,f.bytes=u:=⟨_,rfl⟩
  rw [hu] at hc0 u1 u2 ⊢
  obtain ⟨cap,v3,hcv,hcs,hfs,hbv⟩:=str_bytes9 W u
  obtain ⟨A,hA⟩:∃ A,W.heap.size=A:=⟨_,rfl⟩
  rw [hA] at hcv hcs hfs
  have hr:n % (8*u.size)<8*u.size:=Nat.mod_lt _ (by omega)
  have hi:n % (8*u.size) / 8<u.size:=by omega
  have hi2:n % (8*u.size) / 8<u.data.toList.length:=by rw [← Lib.size_eq];exact hi
  obtain ⟨x,hcc⟩:∃ x,u.data.toList[n % (8*u.size) / 8]=x:=⟨_,rfl⟩
  have cx:=hcs _ hi2
  rw [hcc] at cx
  have fx:=hfs _ hi
  have hmod:(Int.tmod (n:Int) ((u.size:Int)*8))=((n % (8*u.size):Nat):Int):=by
   rw [Nat.mul_comm 8]
   rfl
  unfold turnV
  rw [List.getD_eq_getElem?_getD,List.getElem?_eq_getElem hi2,Option.getD_some,hcc]
  generalize hrr:n % (8*u.size)=q at *
  obtain ⟨d,hd⟩:∃ d,x ^^^ UInt8.ofNat (2 ^ (q % 8))=d:=⟨_,rfl⟩
  rw [hd]
  have HB:=hide (fun (d:UInt8)=>bytes_back9 v3.drew A cap (q / 8) d u hcs)
  have HV:=hide (And.intro hbv (And.intro hgS hgW))
  have H:=hide h
  have cA3:=(hbv.cell (p:=⟨Ww,0,none⟩) (World.block_lt_of_cell? _ _ cA)).trans cA
  have c123:=(hbv.cell (p:=⟨Sa,12,none⟩) (World.block_lt_of_cell? _ _ c12)).trans c12
  clear hcs hfs hbv hcc h hset hs
  generalize hsz:u.size=k at *
  go_enter Tryz.func53,Tryz.ntmps53
  go_upto_region 3 with fail
  have hq:(n:Int) % (8*(k:Int))=(q:Int):=by rw [← hrr];push_cast;rfl
  rw [hq]
  clear hq hrr hmod
  apply wp_region_lit
  refine Great.wpList_readTo rfl (some 31) rfl (.slice (some ⟨A,0,none⟩) k cap) ?p31 ?_
  case p31 =>
   go_simp
  simp only [Act.put,sA,sZ,sS,gA,gZ,gS]
  refine Great.wpList_readTo rfl (some 32) rfl (.int .i64 (q:Int)) ?p32 ?_
  case p32 =>
   go_simp
  simp only [Act.put,sA,sZ,sS,gA,gZ,gS]
  refine Great.wpList_readTo rfl (some 33) rfl (.int .i64 ((q / 8:Nat):Int)) ?p33 ?_
  case p33 =>
   go_simp
   exact wrap_q q (by omega)
  simp only [Act.put,sA,sZ,sS,gA,gZ,gS]
  refine Great.wpList_readTo rfl (some 34) rfl (.slice (some ⟨A,0,none⟩) k cap) ?p34 ?_
  case p34 =>
   go_simp
  simp only [Act.put,sA,sZ,sS,gA,gZ,gS]
  refine Great.wpList_readTo rfl (some 35) rfl (.int .i64 (q:Int)) ?p35 ?_
  case p35 =>
   go_simp
  simp only [Act.put,sA,sZ,sS,gA,gZ,gS]
  refine Great.wpList_readTo rfl (some 36) rfl (.int .i64 ((q / 8:Nat):Int)) ?p36 ?_
  case p36 =>
   go_simp
   exact wrap_q q (by omega)
  simp only [Act.put,sA,sZ,sS,gA,gZ,gS]
  refine Great.wpList_readTo rfl (some 37) rfl (.pointer (some ⟨A,q / 8,none⟩)) ?p37 ?_
  case p37 =>
   go_simp
   rw [if_pos ⟨by omega,by omega⟩,show ((q:Int) / 8).toNat=q / 8 by omega]
  simp only [Act.put,sA,sZ,sS,gA,gZ,gS]
  refine Great.wpList_readTo rfl (some 38) rfl (.int .u8 (x.toNat:Int)) ?p38 ?_
  case p38 =>
   go_simp
  simp only [Act.put,sA,sZ,sS,gA,gZ,gS]
  refine Great.wpList_readTo rfl (some 39) rfl (.int .i64 (q:Int)) ?p39 ?_
  case p39 =>
   go_simp
  simp only [Act.put,sA,sZ,sS,gA,gZ,gS]
  refine Great.wpList_readTo rfl (some 40) rfl (.int .i64 ((q % 8:Nat):Int)) ?p40 ?_
  case p40 =>
   go_simp
   exact Int.tmod_eq_emod_of_nonneg (by omega)
  simp only [Act.put,sA,sZ,sS,gA,gZ,gS]
  refine Great.wpList_readTo rfl (some 41) rfl (.int .u64 ((q % 8:Nat):Int)) ?p41 ?_
  case p41 =>
   go_simp
   exact wrap_u q
  simp only [Act.put,sA,sZ,sS,gA,gZ,gS]
  refine Great.wpList_readTo rfl (some 42) rfl (.int .u8 ((2 ^ (q % 8):Nat):Int)) ?p42 ?_
  case p42 =>
   go_simp
   exact pow_q q
  simp only [Act.put,sA,sZ,sS,gA,gZ,gS]
  refine Great.wpList_readTo rfl (some 43) rfl (.int .u8 (d.toNat:Int)) ?p43 ?_
  case p43 =>
   go_simp
   rw [← hd]
   exact xor_q x (q % 8) (Nat.mod_lt _ (by decide))
  simp only [Act.put,sA,sZ,sS,gA,gZ,gS]
  refine Great.wpList_readTo rfl (some 44) rfl (.pointer (some ⟨A,q / 8,none⟩)) ?p44 ?_
  case p44 =>
   go_simp
   rw [if_pos ⟨by omega,by omega⟩,show ((q:Int) / 8).toNat=q / 8 by omega]
  simp only [Act.put,sA,sZ,sS,gA,gZ,gS]
  go_upto_region 4 with fail
  have hwA:Ww≠A:=by have:=World.block_lt_of_cell? _ _ cA;rw [← hA];exact Nat.ne_of_lt this
  have hsA:Sa≠A:=by have:=World.block_lt_of_cell? _ _ c12;rw [← hA];exact Nat.ne_of_lt this
  have hgA:g≠A:=by rw [← hA];exact Nat.ne_of_lt hgl
  have hb3:=(uh HV).1
  obtain ⟨v4,hv4⟩:∃ v4,(v3.setCell ⟨A,q / 8,none⟩ (.int .u8 (d.toNat:Int))).drew=v4:=⟨_,rfl⟩
  have ot4:∀ k,k≠A→v4.heap[k]?=v3.heap[k]?:=fun k hk=>by
   rw [← hv4]
   exact heap_setCell_other _ _ _ _ hk
  have hb4:Below W.heap.size W v4:=by
   rw [← hv4]
   exact (hb3.setCell (p:=⟨A,q / 8,none⟩) (by show W.heap.size≤A;omega) _).drew
  have x0:v4.cell? ⟨Ww,0,none⟩=some (.pointer (some ⟨Sa,0,none⟩)):=(hb4.cell (p:=⟨Ww,0,none⟩) (World.block_lt_of_cell? _ _ cA)).trans cA
  have x1:v4.cell? ⟨Sa,12,none⟩=some (.slice (some ⟨g,o,none⟩) (r.length+1) (cp+1)):=(hb4.cell (p:=⟨Sa,12,none⟩) (World.block_lt_of_cell? _ _ c12)).trans c12
  have x2:v4.cell? ⟨g,o,none⟩=some (.string u):=(hb4.cell (p:=⟨g,o,none⟩) hgl).trans hc0
  have x3:v4.frozen? ⟨g,o,none⟩=false:=by
   unfold World.frozen? at hf0 ⊢
   rw [hb4.block g hgl]
   exact hf0
  have hcv2:(convert 22 9 (.slice (some ⟨A,0,none⟩) k cap)).run Tryz.prog v4=.ok (.string (txt (u.data.toList.set (q / 8) d))) v4:=by
   rw [← hv4]
   exact uh HB d
  have HE:=hide (uh HSET v4 (txt (u.data.toList.set (q / 8) d)) hb4)
  have xs:∀ v,(v4.setCell ⟨g,o,none⟩ v).cell? ⟨Ww,0,none⟩=some (.pointer (some ⟨Sa,0,none⟩))∧(v4.setCell ⟨g,o,none⟩ v).cell? ⟨Sa,12,none⟩=some (.slice (some ⟨g,o,none⟩) (r.length+1) (cp+1)):=fun v=>by
   rw [World.cell?_setCell_other _ _ _ _ (fun e=>(uh HV).2.2 (by injection e)),World.cell?_setCell_other _ _ _ _ (fun e=>(uh HV).2.1 (by injection e))]
   exact ⟨x0,x1⟩
  have hS4:v4.cell? ⟨Ww,0,none⟩=some (.pointer (some ⟨Sa,0,none⟩))∧v4.cell? ⟨Sa,12,none⟩=some (.slice (some ⟨g,o,none⟩) (r.length+1) (cp+1)):=⟨x0,x1⟩
  refine wp_region_held_drew (S:=fun z=>z.cell? ⟨Ww,0,none⟩=some (.pointer (some ⟨Sa,0,none⟩))∧z.cell? ⟨Sa,12,none⟩=some (.slice (some ⟨g,o,none⟩) (r.length+1) (cp+1))) (by kernel_rfl) (by rw [hv4];exact hS4) (fun hHeld=>?_)
  rw [hv4]
  clear hHeld HB HSET hb3 hb4 ot4 cx fx cA3 c123 cA c12 hc0 hf0
  refine t2 0 ?_
  refine t2 1 ?_
  refine t2 2 ?_
  refine t2 3 ?_
  refine t2 4 ?_
  refine t2 5 ?_
  refine t2 6 ?_
  refine t2 7 ?_
  refine r1 8 rfl (fun K hK=>?_)
  go_simp
  refine ro hK hS4 fun _=>?_
  clear hK K
  refine t2 9 ?_
  refine t2 10 ?_
  refine r1 11 rfl (fun K hK=>?_)
  go_simp
  refine ro hK (xs _) fun _=>?_
  clear hK K x0 x1 x2 x3 hcv2 xs hS4
  refine dn ?_ _
  go_wp2_with fail
  refine bodyPost_end (results_none rfl _ _ _) rfl ?_
  exact ⟨rfl,_,⟨_,_,_,_,_,(uh HE).1,rfl⟩,(uh HE).2⟩
theorem MN.firstB {base:Nat} {W:World} {B:Nat} {m:Nw} {n:Int} {K:Nat→Prop} (h:MN base B m n W K):∃ ad cp,W.cell? ⟨B,20,none⟩=some (.slice ad m.b.ln.length cp):=by
 obtain ⟨qa,la,ga,qb,lb,gb,h,rfl⟩:=h
 obtain ⟨ad,cp,e⟩:=h.sb.hl.form
 have:=cell_blk h.sb.wr.row
 rw [e] at this
 exact ⟨ad,cp,this⟩
set_option maxHeartbeats 8000000 in
set_option maxRecDepth 100000 in
theorem iSettleN {base:Nat} {W:World} {B:Nat} {m:Nw} {n:Int} {K:Nat→Prop} (h:MN base B m n W K) {na nb c:Nat} (ok:NwOk na nb c m) (hna:na≤100000) (hnb:nb≤100000) (hcc:c≤1000000) :
  Calls Tryz.prog 28 #[.pointer (some ⟨B,0,none⟩)] W fun e W'=>e=.returned (.tuple #[])∧∃ K',MN base B (timesN setN1 100 m) n W' K'∧Fz (fun k=>k=B) K K' W W':=by
 have H0:=hide h
 clear h
 go_enter Tryz.func28,Tryz.ntmps28
 go_wp2_with fail
 go_loopw [2] (fun p wr=>∃ (i:Nat) (K':Nat→Prop),i≤100∧p=.int .i64 i∧MN base B (timesN setN1 i m) n wr K'∧Fz (fun k=>k=B) K K' W wr) (fun p _=>100 - (intOf p).toNat)
 case atStart=>exact ⟨0,K,by omega,rfl,uh H0,Fz.refl _ _ _⟩
 case round =>
  obtain ⟨i,K',hi,rfl,hM,hf⟩:=hrel
  by_cases hlt:i<100
  ·have d1:(i:Int)<100:=by omega
   have hok:=sets_ok i ok
   have HST:Hid (timesN setN1 (i+1) m=sendAgainN (timesN cmA (timesN cmB (sendNextN (timesN setN1 i m)).a.ln.length (sendNextN (timesN setN1 i m))).b.ln.length (timesN cmB (sendNextN (timesN setN1 i m)).a.ln.length (sendNextN (timesN setN1 i m))))):=hide rfl
   generalize timesN setN1 i m=mi at *
   have ha9:na+8240*i≤970000:=by omega
   have hb9:nb+8240*i≤970000:=by omega
   have hc9:c+16480*i≤3000000:=by omega
   generalize na+8240*i=na at *
   generalize nb+8240*i=nb at *
   generalize c+16480*i=c at *
   have hok1:=next_ok hok
   have C1:=hide (iSendNext hM (by have:=hok.a.g;omega) (by have:=(lpRt hok.a.p).l20;omega))
   have HM:=hide hf
   clear hM hf H0
   obtain ⟨u,hu⟩:∃ u,sendNextN mi=u:=⟨_,rfl⟩
   rw [hu] at C1 HST hok1
   clear hu
   go_upto_region 3 with (refine (uh C1).mono ?_;rintro e w2 ⟨rfl,K2,hm2,hf2⟩;have HM2:=hide (And.intro hm2 hf2);clear hm2 hf2 C1)
   have hok2:=timesB_ok u.a.ln.length hok1
   have hl2:=hok1.a.l
   have hd3:=(uh HM2).1.drw
   obtain ⟨ad3,cp3,hv3⟩:=hd3.first
   have CC3:=hide (iComeAll hv3)
   have CH3:=hide fun (q:World) (C1 C2:Nat) (hb:Below w2.drew.heap.size w2.drew q) (b1:q.heap[C1]?=some (.cells #[.int .i64 ((u.a.ln.length:Nat):Int)] 3)) (b2:q.heap[C2]?=some (.cells #[.pointer (some ⟨B,6,none⟩)] 108))=>iTakeB (hd3.step hb) hok1 (by omega) (by omega) b1 b2
   rw [Nat.min_self] at CH3
   clear hd3
   obtain ⟨v,hu3⟩:∃ v,timesN cmB u.a.ln.length u=v:=⟨_,rfl⟩
   rw [hu3] at CH3 HST hok2
   clear hu3
   generalize u.a.ln.length=n3 at *
   refine wp_region_held_drew (S:=fun _=>True) (by kernel_rfl) trivial (fun hHeld=>?_)
   refine t2 0 ?_
   refine t2 1 ?_
   refine t2 2 ?_
   refine t2 3 ?_
   refine t2 4 ?_
   refine t2 6 ?_
   refine t2 7 ?_
   refine t2 8 ?_
   refine r1 5 rfl (fun K hK=>?_)
   go_simp
   refine (uh CC3).mono ?_
   rintro e q3 ⟨C1,C2,rfl,b1,b2,hb,_,_⟩
   have HQ3:=hide (uh CH3 q3 C1 C2 hb b1 b2)
   have HB3:=hide hb
   clear CC3 CH3 b1 b2 hb hv3 hHeld
   refine ro hK trivial fun _=>?_
   clear hK K
   refine r1 9 rfl (fun K hK=>?_)
   go_simp
   refine (uh HQ3).mono ?_
   rintro e w3 ⟨rfl,K3,hm3,hf3⟩
   have HM3:=hide (And.intro hm3 ((Fz.of_below (K:=K2) ((Below.refl w2.heap.size w2).drew.trans (uh HB3))).trans hf3))
   clear hm3 hf3 HQ3 HB3
   refine ro hK trivial fun _=>?_
   clear hK K
   refine dn ?_ _
   have hok3:=timesA_ok v.b.ln.length hok2
   have hl3:=hok2.b.l
   go_upto_region 4 with fail
   have hd4:=(uh HM3).1.drw
   obtain ⟨ad4,cp4,hv4⟩:=hd4.firstB
   have CC4:=hide (iComeAll hv4)
   have CH4:=hide fun (q:World) (C1 C2:Nat) (hb:Below w3.drew.heap.size w3.drew q) (b1:q.heap[C1]?=some (.cells #[.int .i64 ((v.b.ln.length:Nat):Int)] 3)) (b2:q.heap[C2]?=some (.cells #[.pointer (some ⟨B,20,none⟩)] 108))=>iTakeA (hd4.step hb) hok2 (by omega) (by omega) b1 b2
   rw [Nat.min_self] at CH4
   clear hd4
   obtain ⟨z,hu4⟩:∃ z,timesN cmA v.b.ln.length v=z:=⟨_,rfl⟩
   rw [hu4] at CH4 HST hok3
   clear hu4
   generalize v.b.ln.length=n4 at *
   refine wp_region_held_drew (S:=fun _=>True) (by kernel_rfl) trivial (fun hHeld=>?_)
   refine t2 0 ?_
   refine t2 1 ?_
   refine t2 2 ?_
   refine t2 3 ?_
   refine t2 4 ?_
   refine t2 6 ?_
   refine t2 7 ?_
   refine t2 8 ?_
   refine r1 5 rfl (fun K hK=>?_)
   go_simp
   refine (uh CC4).mono ?_
   rintro e q4 ⟨C1,C2,rfl,b1,b2,hb,_,_⟩
   have HQ4:=hide (uh CH4 q4 C1 C2 hb b1 b2)
   have HB4:=hide hb
   clear CC4 CH4 b1 b2 hb hv4 hHeld
   refine ro hK trivial fun _=>?_
   clear hK K
   refine r1 9 rfl (fun K hK=>?_)
   go_simp
   refine (uh HQ4).mono ?_
   rintro e w4 ⟨rfl,K4,hm4,hf4⟩
   have HM4:=hide (And.intro hm4 ((Fz.of_below (K:=K3) ((Below.refl w3.heap.size w3).drew.trans (uh HB4))).trans hf4))
   clear hm4 hf4 HQ4 HB4
   refine ro hK trivial fun _=>?_
   clear hK K
   refine dn ?_ _
   have hok3':=hok3
   have C4:=hide (iSendAgain (uh HM4).1 (by have:=hok3.a.g;omega) (by have:=(lpRt hok3.a.p).l20;omega))
   go_wp2_with fail
   refine (uh C4).mono ?_
   rintro e w5 ⟨rfl,K5,hm5,hf5⟩
   have HM5:=hide (And.intro hm5 hf5)
   clear hm5 hf5 C4
   go_wp2_with fail
   go_roundw
   case rel=>exact ⟨i+1,K5,by omega,by go_num,by rw [uh HST];exact (uh HM5).1,(uh HM).trans ((uh HM2).2.trans ((uh HM3).2.trans ((uh HM4).2.trans (uh HM5).2)))⟩
   case measure=>simp [intOf];omega
  ·have e:i=100:=by omega
   subst e
   have d1:¬ (((100:Nat):Int)<100):=by omega
   have HM:=hide (And.intro hM hf)
   clear hM hf
   go_wp2_with fail
   refine bodyPost_end (results_none rfl _ _ _) rfl ?_
   exact ⟨rfl,K',(uh HM).1,(uh HM).2⟩
def nbI (T:List ByteArray) (i:Nat):Nb:=⟨1,((i % 8:Nat):Int),0,T.getD i ⟨#[]⟩⟩
def nbA (k:Int) (r:Nat):Nb:=⟨k,0,((r % 8:Nat):Int),⟨#[]⟩⟩
theorem qOk_all {T:List ByteArray} (h:qOk T=true):T.length≤20∧∀ t ∈ T,t.size≤200:=by
 unfold qOk at h
 simp only [Bool.and_eq_true,decide_eq_true_eq,List.all_eq_true] at h
 exact h
theorem nbI_ok {T:List ByteArray} (hq:qOk T=true) {i:Nat} (hi:i<T.length):nbOk (nbI T i)=true:=by
 have hz:=(qOk_all hq).2
 refine decide_eq_true ⟨⟨Int.le_refl _,by show (0:Int)≤7;decide⟩,Or.inl ⟨rfl,⟨by show (0:Int)≤((i % 8:Nat):Int);omega,by show ((i % 8:Nat):Int)≤7;omega⟩,?_⟩⟩
 show (T.getD i ⟨#[]⟩).size≤200
 rw [List.getD_eq_getElem?_getD,List.getElem?_eq_getElem hi]
 exact hz _ (List.getElem_mem hi)
theorem nbA_ok {k:Int} (hk:k=2∨k=3) (r:Nat):nbOk (nbA k r)=true :=
 decide_eq_true ⟨⟨by show (0:Int)≤((r % 8:Nat):Int);omega,by show ((r % 8:Nat):Int)≤7;omega⟩,Or.inr ⟨hk,rfl,rfl⟩⟩
def LaOk (T:List ByteArray) (w A R:Nat) (l:List Sf):Prop:=∃ I:List Nat,l.map (·.text)=I.map (fun i=>txN (nbI T i))∧(∀ i ∈ I,i<T.length∧i<A+w∧R≤i+7)∧I.Pairwise (fun i j=>i<j+7)
def LbOk (A R:Nat) (l:List Sf):Prop:=∃ J:List (Int × Nat),l=J.map (fun j=>frameOfF (nbA j.1 j.2))∧(∀ j ∈ J,(j.1=2∨j.1=3)∧A≤j.2∧j.2≤R)∧J.Pairwise (fun a b=>a.2≤b.2)
theorem LaOk.nil (T:List ByteArray) (w A R:Nat):LaOk T w A R []:=⟨[],rfl,fun _ h=>(by cases h),List.Pairwise.nil⟩
theorem LbOk.nil (A R:Nat):LbOk A R []:=⟨[],rfl,fun _ h=>(by cases h),List.Pairwise.nil⟩
theorem LaOk.up {T:List ByteArray} {w A A' R:Nat} {l:List Sf} (h:LaOk T w A R l) (hA:A≤A'):LaOk T w A' R l:=by
 obtain ⟨I,h1,h2,h3⟩:=h
 exact ⟨I,h1,fun i hi=>by have:=h2 i hi;omega,h3⟩
theorem LbOk.up {A R R':Nat} {l:List Sf} (h:LbOk A R l) (hR:R≤R'):LbOk A R' l:=by
 obtain ⟨J,h1,h2,h3⟩:=h
 exact ⟨J,h1,fun j hj=>by have:=h2 j hj;exact ⟨this.1,this.2.1,by omega⟩,h3⟩
theorem LaOk.take {T:List ByteArray} {w A R:Nat} {l:List Sf} (h:LaOk T w A R l) (n:Nat):LaOk T w A R (l.take n):=by
 obtain ⟨I,h1,h2,h3⟩:=h
 exact ⟨I.take n,by rw [List.map_take,h1,List.map_take],fun i hi=>h2 i (List.mem_of_mem_take hi),h3.sublist (List.take_sublist n I)⟩
theorem LbOk.take {A R:Nat} {l:List Sf} (h:LbOk A R l) (n:Nat):LbOk A R (l.take n):=by
 obtain ⟨J,h1,h2,h3⟩:=h
 exact ⟨J.take n,by rw [h1,List.map_take],fun i hi=>h2 i (List.mem_of_mem_take hi),h3.sublist (List.take_sublist n J)⟩
theorem LaOk.tail {T:List ByteArray} {w A R:Nat} {l:List Sf} (h:LaOk T w A R l):LaOk T w A R l.tail:=by
 obtain ⟨I,h1,h2,h3⟩:=h
 refine ⟨I.tail,by rw [List.map_tail,h1,List.map_tail],fun i hi=>h2 i (List.mem_of_mem_tail hi),h3.sublist (List.tail_sublist I)⟩
theorem LbOk.tail {A R:Nat} {l:List Sf} (h:LbOk A R l):LbOk A R l.tail:=by
 obtain ⟨J,h1,h2,h3⟩:=h
 refine ⟨J.tail,by rw [h1,List.map_tail],fun i hi=>h2 i (List.mem_of_mem_tail hi),h3.sublist (List.tail_sublist J)⟩
theorem LaOk.head {T:List ByteArray} {w A R:Nat} {f:Sf} {l:List Sf} (h:LaOk T w A R (f :: l)):∃ i,f.text=txN (nbI T i)∧i<T.length∧i<A+w∧R≤i+7∧∃ I:List Nat,l.map (·.text)=I.map (fun i=>txN (nbI T i))∧(∀ j ∈ I,j<T.length∧j<A+w∧R≤j+7∧i<j+7)∧I.Pairwise (fun i j=>i<j+7):=by
 obtain ⟨I,h1,h2,h3⟩:=h
 cases I with
 | nil=>cases h1
 | cons i I =>
  rw [List.map_cons,List.map_cons] at h1
  injection h1 with e1 e2
  have hi:=h2 i (List.mem_cons_self ..)
  obtain ⟨q1,q2⟩:=List.pairwise_cons.1 h3
  exact ⟨i,e1,hi.1,hi.2.1,hi.2.2,I,e2,fun j hj=>by have:=h2 j (List.mem_cons_of_mem _ hj);exact ⟨this.1,this.2.1,this.2.2,q1 j hj⟩,q2⟩
theorem LbOk.head {A R:Nat} {f:Sf} {l:List Sf} (h:LbOk A R (f :: l)):∃ k r,f=frameOfF (nbA k r)∧(k=2∨k=3)∧A≤r∧r≤R∧LbOk r R l:=by
 obtain ⟨J,h1,h2,h3⟩:=h
 cases J with
 | nil=>cases h1
 | cons j J =>
  rw [List.map_cons] at h1
  injection h1 with e1 e2
  have hj:=h2 j (List.mem_cons_self ..)
  obtain ⟨q1,q2⟩:=List.pairwise_cons.1 h3
  exact ⟨j.1,j.2,e1,hj.1,hj.2.1,hj.2.2,J,e2,fun x hx=>⟨(h2 x (List.mem_cons_of_mem _ hx)).1,q1 x hx,(h2 x (List.mem_cons_of_mem _ hx)).2.2⟩,q2⟩
theorem LbOk.snoc {A R R':Nat} {l:List Sf} (h:LbOk A R l) (hR:R≤R') (hA:A≤R') {k:Int} (hk:k=2∨k=3):LbOk A R' (l ++ [frameOfF (nbA k R')]):=by
 obtain ⟨J,h1,h2,h3⟩:=h
 refine ⟨J ++ [(k,R')],by rw [h1,List.map_append];rfl,fun j hj=>?_,List.pairwise_append.2 ⟨h3,List.pairwise_singleton _ _,fun a ha b hb=>?_⟩⟩
 ·rcases List.mem_append.1 hj with hj | hj
  ·have:=h2 j hj
   exact ⟨this.1,this.2.1,by omega⟩
  ·rw [List.mem_singleton.1 hj]
   exact ⟨hk,hA,Nat.le_refl _⟩
 ·rw [List.mem_singleton.1 hb]
  have:=h2 a ha
  show a.2≤R'
  omega
structure Iv (T:List ByteArray) (w A S R:Nat) (m:Nw):Prop where
 ok:∃ na nb c,NwOk na nb c m
 w1:1≤w∧w≤7
 t:qOk T=true
 pa:m.a.p=⟨w,((S % 8:Nat):Int),((A % 8:Nat):Int),0,false⟩
 qa:m.a.Q=T.drop A
 pb:∃ k,m.b.p=⟨w,0,0,((R % 8:Nat):Int),k⟩
 qb:m.b.Q=[]
 gb:m.b.gt=T.take R
 sx:A≤S∧S≤A+w∧S≤T.length
 ar:A≤R∧R≤A+w∧R≤T.length
 la:LaOk T w A R m.a.ln
 lb:LbOk A R m.b.ln
 da:m.a.df.wd=false∧m.a.df.x=0
 db:m.b.df.wd=false∧m.b.df.x=0
 un:m.un=0
theorem far_of {a b:Nat} (h1:a≤b) (h2:b≤a+7):far ((b % 8:Nat):Int) ((a % 8:Nat):Int)=((b - a:Nat):Int):=by
 unfold far
 omega
theorem Iv.okA {T:List ByteArray} {w A S R:Nat} {m:Nw} (h:Iv T w A S R m):lpOk m.a.p m.a.Q=true:=by
 obtain ⟨_,_,_,ok⟩:=h.ok
 exact ok.a.p
theorem Iv.okB {T:List ByteArray} {w A S R:Nat} {m:Nw} (h:Iv T w A S R m):lpOk m.b.p m.b.Q=true:=by
 obtain ⟨_,_,_,ok⟩:=h.ok
 exact ok.b.p
theorem hearA {T:List ByteArray} {w A S:Nat} (w7:w≤7) (sx:A≤S∧S≤A+w) {s:Nl} (hp:s.p=⟨w,((S % 8:Nat):Int),((A % 8:Nat):Int),0,false⟩) (hq:s.Q=T.drop A) (ok:lpOk s.p s.Q=true) (hl:s.ln.length≤40) {k:Int} (hk:k=2∨k=3) {r:Nat} (hr:A≤r∧r≤A+w) :
  ∃ A' S' g,(A'=A∧S'=S∧S<r∨A'=r∧r≤S∧(S'=S∨S'=r))∧hearN s (txN (nbA k r))=⟨⟨w,((S' % 8:Nat):Int),((A' % 8:Nat):Int),0,false⟩,T.drop A',s.ln,s.df,g⟩:=by
 have hf:=nbA_ok hk r
 rw [hearN_tx s hf]
 have f1:far s.p.vs s.p.va=((S - A:Nat):Int):=by rw [hp];exact far_of sx.1 (by omega)
 have f2:far (nbA k r).nr s.p.va=((r - A:Nat):Int):=by rw [hp];exact far_of hr.1 (by omega)
 unfold hearLF
 rw [if_pos ⟨ok,hf⟩,f1,f2]
 by_cases hs:S<r
 ·rw [if_pos (by omega)]
  refine ⟨A,S,s.gt,Or.inl ⟨rfl,rfl,hs⟩,?_⟩
  have e:followN s (loErr 5)=s:=if_neg (by decide)
  rw [e]
  obtain ⟨p,Q,ln,df,gt⟩:=s
  dsimp only at hp hq ⊢
  rw [hp,hq]
 ·rw [if_neg (by omega)]
  have hd:s.Q.drop ((r - A:Nat):Int).toNat=T.drop r:=by
   rw [hq,List.drop_drop,Int.toNat_natCast,show A+(r - A)=r by omega]
  rw [hd]
  have hln:(s.ln ++ List.map frameOfF []).take 40=s.ln:=by
   rw [List.map_nil,List.append_nil,List.take_of_length_le hl]
  rcases hk with rfl | rfl
  ·refine ⟨r,S,s.gt ++ [],Or.inr ⟨rfl,by omega,Or.inl rfl⟩,?_⟩
   have e:hearG s.p (T.drop r) (nbA 2 r)=⟨⟨s.p.wi,s.p.vs,((r % 8:Nat):Int),s.p.vr,s.p.ak⟩,T.drop r,[],[],0⟩:=rfl
   rw [e]
   unfold followN
   rw [if_pos rfl,hln,hp]
  ·refine ⟨r,r,s.gt ++ [],Or.inr ⟨rfl,by omega,Or.inr rfl⟩,?_⟩
   have e:hearG s.p (T.drop r) (nbA 3 r)=⟨⟨s.p.wi,((r % 8:Nat):Int),((r % 8:Nat):Int),s.p.vr,s.p.ak⟩,T.drop r,[],[],0⟩:=rfl
   rw [e]
   unfold followN
   rw [if_pos rfl,hln,hp]
theorem hearB {T:List ByteArray} {w R:Nat} (ht:qOk T=true) {s:Nl} {k:Bool} (hp:s.p=⟨w,0,0,((R % 8:Nat):Int),k⟩) (hq:s.Q=[]) (ok:lpOk s.p s.Q=true) (hg:s.gt=T.take R) {i:Nat} (hi:i<T.length) (h1:R≤i+7) (h2:i≤R+6) :
  ∃ c k' R',(c=2∨c=3)∧(i=R∧R'=R+1∨i≠R∧R'=R)∧hearN s (txN (nbI T i))=⟨⟨w,0,0,((R' % 8:Nat):Int),k'⟩,[],(s.ln ++ [frameOfF (nbA c R')]).take 40,s.df,T.take R'⟩:=by
 have hf:=nbI_ok ht hi
 rw [hearN_tx s hf]
 have f1:far s.p.vs s.p.va=0:=by rw [hp];exact (by decide:far 0 0=0)
 have f2:far (nbI T i).nr s.p.va=0:=by rw [hp];exact (by decide:far 0 0=0)
 unfold hearLF
 rw [if_pos ⟨ok,hf⟩,f1,f2,if_neg (by decide),hq]
 have hG:hearG s.p (([]:List ByteArray).drop (0:Int).toNat) (nbI T i)=⟨(takeP ⟨s.p.wi,s.p.vs,0,s.p.vr,s.p.ak⟩ (nbI T i)).1,[],[(takeP ⟨s.p.wi,s.p.vs,0,s.p.vr,s.p.ak⟩ (nbI T i)).2.2],(takeP ⟨s.p.wi,s.p.vs,0,s.p.vr,s.p.ak⟩ (nbI T i)).2.1,0⟩:=rfl
 rw [hG,hp]
 dsimp only
 unfold takeP
 dsimp only
 by_cases hiR:i=R
 ·subst hiR
  have hns:(nbI T i).ns=((i % 8:Nat):Int):=rfl
  rw [if_pos hns]
  have hm:(((i % 8:Nat):Int)+1) % 8=(((i+1) % 8:Nat):Int):=by omega
  rw [hm]
  refine ⟨2,false,i+1,Or.inl rfl,Or.inl ⟨rfl,rfl⟩,?_⟩
  have ht2:s.gt ++ [(nbI T i).text]=T.take (i+1):=by
   rw [hg,← List.take_append_getElem hi]
   show T.take i ++ [T.getD i ⟨#[]⟩]=_
   rw [List.getD_eq_getElem?_getD,List.getElem?_eq_getElem hi]
   rfl
  unfold followN
  rw [if_pos rfl]
  dsimp only
  rw [ht2]
  rfl
 ·have hne:¬ ((nbI T i).ns=((R % 8:Nat):Int)):=by
   show ¬ (((i % 8:Nat):Int)=((R % 8:Nat):Int))
   omega
  rw [if_neg hne]
  cases k
  ·rw [if_pos rfl]
   refine ⟨3,true,R,Or.inr rfl,Or.inr ⟨hiR,rfl⟩,?_⟩
   unfold followN
   rw [if_pos rfl]
   dsimp only
   rw [List.append_nil,hg]
   rfl
  ·rw [if_neg (by decide)]
   refine ⟨2,true,R,Or.inl rfl,Or.inr ⟨hiR,rfl⟩,?_⟩
   unfold followN
   rw [if_pos rfl]
   dsimp only
   rw [List.append_nil,hg]
   rfl
set_option maxHeartbeats 2000000 in
theorem src_odd_n (w:World) (B:Nat) (sl:Value) (n:Nat) (k:Nat) (hk:k<100000) (hn:n≤maxLen) (hS:Src w B sl n) (hD:Dat w B sl n) :
  Calls Tryz.prog 21 #[.pointer (some ⟨B,0,none⟩),.int .i64 k] w fun e w'=>∃ u:ByteArray,e=.returned (.string u)∧u.size=k∧Src w' B sl n∧Nigh B w w':=by
 have HD:=hide hD
 have hB0:=hS.lt
 have c:=src_bytes_n w B sl n k hk hn hS hD
 clear hS hD
 go_enter Tryz.func21,Tryz.ntmps21
 go_wp2_with fail
 refine c.mono ?_
 rintro e w1 ⟨xs,rfl,hxl,hS1,hb1⟩
 have hts:(strOfNums xs).size=k:=by rw [strOfNums_size];exact hxl
 generalize strOfNums xs=t at *
 obtain ⟨vb,W2,hcv,hrow,hb2⟩:=rowB_of t w1 (by omega)
 have hBw:=hS1.lt
 have hS2:=hS1.same (hb2.block B hBw)
 have hs1:=hb1.size
 have hb12:Nigh B w W2:=hb1.trans (Nigh.of_below hb2)
 have htl:t.data.toList.length=k:=by rw [Array.length_toList];exact hts
 have hrow2:RowB W2 w.heap.size vb t.data.toList:=hrow.imp id fun ⟨g,cap,cur,fz,e1,e2,e3⟩=>⟨g,cap,cur,fz,e1,by omega,e3⟩
 obtain ⟨ad,cp,hv⟩:=hrow2.form
 rw [htl] at hv
 have HR:=hide hrow2
 have HS2:=hide hS2
 clear hrow hrow2 hS1 hS2 hb1 hb2 c
 subst hv
 go_wp2_with fail
 go_loopw [6] (fun y wr=>∃ (i:Nat) (l:List UInt8),i≤k∧y=.int .i64 i∧l.length=k∧RowB wr w.heap.size (.slice ad k cp) l∧Src wr B sl n∧Nigh B w wr) (fun y _=>k - (intOf y).toNat)
 case atStart=>exact ⟨0,t.data.toList,Nat.zero_le _,rfl,htl,uh HR,uh HS2,hb12⟩
 case round =>
  obtain ⟨i,l,hi,rfl,hl,hR,hS3,hb3⟩:=hrel
  by_cases hlt:i<k
  ·have d1:(i:Int)<(k:Int):=by omega
   have c:=src_one wr B sl n 3 (by decide) hn hS3 ((uh HD).below (hb3.below (by omega)))
   have HR3:=hide hR
   clear hcv HR HS2 hR hS3
   go_wp2_with fail
   refine c.mono ?_
   rintro e w4 ⟨b,rfl,hS4,ht4⟩
   have hb4:=hb3.trans (Nigh.of_touch ht4)
   have hR4:=(uh HR3).touch ht4 (by omega)
   have hlt4:=hS4.lt
   have HS4:=hide hS4
   have HR4:=hide hR4
   clear c hS4 hR4 ht4 HR3
   cases b
   ·go_wp2_with fail
    go_roundw
    case rel=>exact ⟨i+1,l,by omega,by go_num,hl,uh HR4,uh HS4,hb4⟩
    case measure=>simp [intOf];omega
   ·go_wp2_with fail
    refine (src_n _ B sl n 9 (by decide) hn ((uh HS4).same (Below.heap_alloc _ _ _ hlt4)) ((uh HD).below ((hb4.alloc _).below (by omega)))).mono ?_
    rintro e w5 ⟨r,rfl,hr,hS5,ht5⟩
    have hr2:r<9:=by omega
    obtain ⟨c,hc⟩:=lit_u8 ((ht5.block w4.heap.size (by omega)).trans (heap_alloc_last w4 _)) (by decide) r (by simpa using hr2)
    have hb5:Nigh B w w5:=(hb4.alloc _).trans (Nigh.of_touch ht5)
    have hR5:=((uh HR4).old ((Below.refl w4.heap.size w4).alloc (Nat.le_refl _) (.cells #[.int .u8 126,.int .u8 125,.int .u8 93,.int .u8 94,.int .u8 17,.int .u8 19,.int .u8 0,.int .u8 31,.int .u8 32] 5)) (Nat.le_refl _)).touch ht5 (by omega)
    obtain ⟨g,cap,hg⟩:=hR5.some (by omega)
    rw [hl] at hg
    cases hg
    rw [← hl] at hR5
    obtain ⟨hR6,⟨y,hy⟩,hf,hgB⟩:=hR5.turn i (by omega) c
    rw [hl] at hR6
    have HR6:=hide hR6
    have HS6:=hide (hS5.same (Below.heap_setCell w5 ⟨g,i,none⟩ (.int .u8 c.toNat) B (by show B≠g;omega)))
    have HB6:=hide (hb5.setCell ⟨g,i,none⟩ (.int .u8 c.toNat) hgB)
    clear hR5 hR6 hS5 ht5 hr HR4 HS4
    go_wp2_with fail
    go_roundw
    case rel=>exact ⟨i+1,l.set i c,by omega,by go_num,by rw [List.length_set];exact hl,uh HR6,uh HS6,uh HB6⟩
    case measure=>simp [intOf];omega
  ·have d1:¬ ((i:Int)<(k:Int)):=by omega
   have hcv2:=hR.conv
   clear hcv
   go_wp2
   go_ret
   exact ⟨txt l,rfl,by rw [txt_size];exact hl,hS3,hb3⟩
end Go.Proofs.YtkcghhkkepndnaaGreatDoor
