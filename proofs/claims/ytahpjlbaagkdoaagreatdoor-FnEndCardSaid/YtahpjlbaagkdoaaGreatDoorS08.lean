/- AnsOf RepI HrM PkRow MarkT PkMarks StrMarks OptArg CfgArg -/
import Derived.Test.YtahpjlbaagkdoaaGreatDoorS07
set_option maxHeartbeats 8000000
namespace Go.Proofs.YtahpjlbaagkdoaaGreatDoor
open Go.RowKit Go.Proofs.Tryz
def mx (l:List (Int × Op.Opt)):Int:=l.foldl (fun m v=>max m v.1) 2
def fl (x:Int) (l:List (Int × Op.Opt)):List Op.Opt:=(l.filter fun v=>v.1 == x).map fun v=>v.2
theorem mx_snoc (l:List (Int × Op.Opt)) (v:Int × Op.Opt):mx (l ++ [v])=max (mx l) v.1:=by unfold mx;rw [List.foldl_append];rfl
theorem fl_snoc (x:Int) (l:List (Int × Op.Opt)) (v:Int × Op.Opt):fl x (l ++ [v])=fl x l ++ if v.1 == x then [v.2] else []:=by
  unfold fl;rw [List.filter_append,List.map_append];congr 1
  cases h:(v.1 == x)<;>simp [h]
theorem fl_len (x:Int) (l:List (Int × Op.Opt)):(fl x l).length≤l.length:=by
  unfold fl;rw [List.length_map];exact List.length_filter_le _ _
theorem infoAn:(prog.info? 81).map (·.size)=some 2:=by kernel_rfl
theorem loadAn {W:World} {E:Nat} {x0 x1:Value} (h:W.heap[E]?=some (.cells #[x0,x1] 81)):(loadVar 81 ⟨E,0,none⟩).run prog W=.ok (.agg #[x0,x1]) W :=
  run_loadVar_row (P:=prog) _ _ 81 81 #[x0,x1] (0,0) _ h underlying81 rfl infoAn
structure AnS (w:World) (x:Int) (v:Value) (q:World):Prop where
  r:q.heap[w.heap.size]?=some (.cells #[.int .i64 0,.slice none 0 0] 81)
  a:q.heap[w.heap.size+1]?=some (.cells #[.int .i64 x,v] 81)
  b:Below w.heap.size w q
theorem AnS.lt {w:World} {x:Int} {v:Value} {q:World} (h:AnS w x v q):w.heap.size+1<q.heap.size:=(ge.1 h.a).1
theorem AnS.step {w:World} {x:Int} {v:Value} {q q':World} {N:Nat} (h:AnS w x v q) (hb:Below N q q') (hN:w.heap.size+1<N):AnS w x v q' :=
  ⟨(hb.block _ (by omega)).trans h.r,(hb.block _ (by omega)).trans h.a,h.b.trans (hb.mono (by omega))⟩
theorem AnS.put0 {w:World} {x:Int} {v:Value} {q:World} (h:AnS w x v q) (y:Int):AnS w y v (q.setCell ⟨w.heap.size+1,0,none⟩ (.int .i64 y)) :=
  ⟨by rw [Below.heap_setCell _ _ _ _ (by simp)];exact h.r,heap_setCell_same _ _ 0 _ _ _ h.a,h.b.setCell (p:=⟨w.heap.size+1,0,none⟩) (Nat.le_succ _) _⟩
theorem AnS.put1 {w:World} {x:Int} {v:Value} {q:World} (h:AnS w x v q) (y:Value):AnS w x y (q.setCell ⟨w.heap.size+1,1,none⟩ y) :=
  ⟨by rw [Below.heap_setCell _ _ _ _ (by simp)];exact h.r,heap_setCell_same _ _ 1 _ _ _ h.a,h.b.setCell (p:=⟨w.heap.size+1,1,none⟩) (Nat.le_succ _) _⟩
theorem ansOf_any (V:List (Int × Op.Opt)) (v:Value) (w:World) (hN:V.length≤20) (hv:VRow 0 V v w) :
    Calls prog 157 #[v] w fun e w'=>∃ ad cp,e=.returned (.agg #[.int .i64 (mx V),.slice ad (fl (mx V) V).length cp])∧w'.ownsRow w.heap.size 116 2 (.slice ad (fl (mx V) V).length cp) (fl (mx V) V).length (ocells (fl (mx V) V))∧Below w.heap.size w w':=by
  obtain ⟨G,cur,rfl,_,hg,hcs,hcu⟩:=hv;have hgl:G<w.heap.size:=(ge.1 hg).1;obtain ⟨n,hn⟩:∃ n,V.length=n:=⟨_,rfl⟩;have HL:Hid (∀ i (hi:i<n) (q:World),Below w.heap.size w q→q.cell? ⟨G,i*3,none⟩=some (.int .i64 (V[i]'(by omega)).1)∧q.cell? ⟨G,i*3+1,none⟩=some (.int .i64 (V[i]'(by omega)).2.kind)∧q.cell? ⟨G,i*3+2,none⟩=some (.string (V[i]'(by omega)).2.data)):=by
    refine hide fun i hi q hb=>?_
    have e:=(hb.block G hgl).trans hg;have h3:=vcells_get V i (V[i]'(by omega)) (List.getElem?_eq_getElem (by omega));exact ⟨by rw [cr e];exact (hcu _ (by omega)).trans h3.1,by rw [cr e];exact (hcu _ (by omega)).trans h3.2.1,by rw [cr e];exact (hcu _ (by omega)).trans h3.2.2⟩
  have HT:Hid (∀ i (hi:i<n),V.take (i+1)=V.take i ++ [V[i]'(by omega)]):=hide fun i hi=>List.take_succ_eq_append_getElem (by omega)
  have HA:Hid (V.take n=V):=hide (by rw [← hn];exact List.take_length);obtain ⟨X,hX⟩:∃ X,mx V=X:=⟨_,rfl⟩;have HX:=hide hX;rw [hn] at hN;rw [hn,hX];clear hX;obtain ⟨hs,q0,q1,hb0⟩:=start2r w (.cells #[.int .i64 0,.slice none 0 0] 81) (.cells #[.int .i64 2,.slice none 0 0] 81);have HQ:Hid (AnS w 2 (.slice none 0 0) ((w.alloc (.cells #[.int .i64 0,.slice none 0 0] 81)).alloc (.cells #[.int .i64 2,.slice none 0 0] 81))):=hide ⟨q0,q1,hb0⟩;clear hs q0 q1 hb0 hg hcs hcu hgl;go_enter func157,ntmps157
  go_upto_region 2 with fail
  refine gen_world _ (uh HQ) ?_;clear HQ;rintro q0 hq0;go_wp2_with fail
  go_loopw [11] (fun y wr=>∃ (i:Nat),i≤n∧y=.int .i64 i∧AnS w (mx (V.take i)) (.slice none 0 0) wr) (fun y _=>n - (intOf y).toNat)
  case atStart=>exact ⟨0,Nat.zero_le _,rfl,hq0⟩
  case round =>
    obtain ⟨i,hi,rfl,hS⟩:=hrel;clear hq0;by_cases hlt:i<n
    · have d1:(i:Int)<(n:Int):=by omega
      obtain ⟨k0,k1,k2⟩:=uh HL i hlt wr hS.b;have HM:=hide ((congrArg mx (uh HT i hlt)).trans (mx_snoc _ _));generalize V[i]'(by omega)=o at *;obtain ⟨x,kd,dt⟩:=o;dsimp only at k0 k1 k2;go_upto_region 5 with fail
      refine gen_world (fun q=>AnS w (mx (V.take i)) (.slice none 0 0) q∧q.heap[wr.heap.size]?=some (.cells #[.int .i64 x,.int .i64 kd,.string dt] 258))
        ⟨hS.step ((Below.refl _ _).alloc (Nat.le_refl _) _) hS.lt,heap_alloc_new wr _⟩ ?_
      rintro q1 ⟨hS1,hv1⟩;generalize wr.heap.size=N1 at *;obtain ⟨a0,a1,f0,f1⟩:=row2x hS1.a;obtain ⟨v0,v1,v2,_,_,_⟩:=row3vd hv1;have HS1:=hide hS1;clear hS hS1 hv1 k0 k1 k2;generalize hm:mx (V.take i)=y at *;go_wp2_with fail
      all_goals
        go_roundw
        case rel =>
          refine ⟨i+1,by omega,by go_num,?_⟩;rw [uh HM];dsimp only;exact (uh HS1).put0 _
        case measure=>simp [intOf];omega
    · have e:i=n:=by omega
      subst e;have d1:¬ ((i:Int)<(i:Int)):=by omega
      rw [uh HA,uh HX] at hS;go_wp2_with fail
      go_loopw [24] (fun y wq=>∃ (j:Nat) (ad:Option Addr) (cp:Nat),j≤i∧y=.int .i64 j∧AnS w X (.slice ad (fl X (V.take j)).length cp) wq∧wq.ownsRow (w.heap.size+1+1) 116 2 (.slice ad (fl X (V.take j)).length cp) (fl X (V.take j)).length (ocells (fl X (V.take j)))) (fun y _=>i - (intOf y).toNat)
      case atStart=>exact ⟨0,none,0,Nat.zero_le _,rfl,hS,⟨rfl,Or.inl ⟨rfl,rfl⟩⟩⟩
      case round =>
        obtain ⟨j,ad,cp,hj,rfl,hQ,ho⟩:=hrel;clear hS;by_cases hlj:j<i
        · have d2:(j:Int)<(i:Int):=by omega
          obtain ⟨k0,k1,k2⟩:=uh HL j hlj wr hQ.b;have HM:=hide ((congrArg (fl X) (uh HT j hlj)).trans (fl_snoc X _ _));have hln:(fl X (V.take j)).length≤20:=Nat.le_trans (fl_len _ _) (by rw [List.length_take];omega);generalize V[j]'(by omega)=o at *;obtain ⟨x,kd,dt⟩:=o;dsimp only at k0 k1 k2;generalize fl X (V.take j)=F at *;have hwl:=hQ.lt;go_upto_region 10 with fail
          refine gen_world (fun q=>AnS w X (.slice ad F.length cp) q∧q.heap[wr.heap.size]?=some (.cells #[.int .i64 x,.int .i64 kd,.string dt] 258)∧q.ownsRow (w.heap.size+1+1) 116 2 (.slice ad F.length cp) F.length (ocells F))
            ⟨hQ.step ((Below.refl _ _).alloc (Nat.le_refl _) _) hQ.lt,heap_alloc_new wr _,ho.alloc _⟩ ?_
          rintro q1 ⟨hS1,hv1,ho1⟩;generalize wr.heap.size=N1 at *;obtain ⟨a0,a1,f0,f1⟩:=row2x hS1.a;obtain ⟨v0,v1,v2,_,_,_⟩:=row3vd hv1;have hs1:=hS1.lt;have HS1:=hide (And.intro hS1 ho1);clear hQ hS1 hv1 k0 k1 k2 ho ho1;cases hx:(x == X)
          · rw [hx] at HM
            go_wp2_with fail
            go_roundw
            case rel =>
              refine ⟨j+1,ad,cp,by omega,by go_num,?_,?_⟩
              · rw [uh HM,if_neg (by decide),List.append_nil]
                exact (uh HS1).1
              · rw [uh HM,if_neg (by decide),List.append_nil]
                exact (uh HS1).2
            case measure=>simp [intOf];omega
          · rw [hx] at HM
            go_wp2_with (first
              | (at_builtin;refine append_opt rfl _ _ rfl (w.heap.size+1+1) (.slice ad F.length cp) F F.length rfl rfl (uh HS1).2 kd dt rfl (by omega) hs1 ?_;rintro v6 w6 ho6 hg6;obtain ⟨a6,c6,rfl⟩:=own_form ho6
                 have hb6:Below (w.heap.size+1+1) q1 w6:=((Below.refl _ _).alloc (by omega) _).grown hg6 (by simp;omega) (fun q hq=>(World.ownsRow.lt (uh HS1).2 q hq).1);have hS6:=(uh HS1).1.step hb6 (Nat.lt_succ_self _);obtain ⟨a0,a1,f0,f1⟩:=row2x hS6.a;have HS6:=hide (And.intro hS6 ho6);clear hS6 ho6 hg6 hb6))
            go_roundw
            case rel =>
              have hl1:F.length+1=(F ++ [Op.Opt.mk kd dt]).length:=by rw [List.length_append];rfl
              refine ⟨j+1,a6,c6,by omega,by go_num,?_,?_⟩
              · rw [uh HM,if_pos rfl,← hl1]
                exact (uh HS6).1.put1 _
              · rw [uh HM,if_pos rfl,← hl1]
                exact own_same (uh HS6).2 fun q hq _=>Below.heap_setCell _ _ _ _ (by simp;omega)
            case measure=>simp [intOf];omega
        · have e:j=i:=by omega
          subst e;have d2:¬ ((j:Int)<(j:Int)):=by omega
          rw [uh HA] at hQ ho;obtain ⟨a0,a1,_,_⟩:=row2x hQ.a;obtain ⟨r0,r1,f0,f1⟩:=row2x hQ.r;have HQ:=hide hQ;have HO:=hide ho;clear hQ ho;go_wp2
          refine bodyPost_ret (v:=.agg #[.int .i64 X,.slice ad (fl X V).length cp]) (by simp [results,results157,asAddr,loadAn (set2_at (uh HQ).r (.int .i64 X) (.slice ad (fl X V).length cp))]) rfl ⟨ad,cp,rfl,?_,?_⟩
          · refine own_lower (own_same (uh HO) fun q hq _=>?_) (by omega)
            rw [Below.heap_setCell _ _ _ _ (by simp;omega),Below.heap_setCell _ _ _ _ (by simp;omega)]
          · exact ((uh HQ).b.setCell (p:=⟨w.heap.size,0,none⟩) (Nat.le_refl _) _).setCell (p:=⟨w.heap.size,1,none⟩) (Nat.le_refl _) _
def repV (m a g:Nat) (p c d:Bool) (L:List Op.Opt):List (Int × Op.Opt):=vdl m a g p c d L L.length
theorem cfg_bd {m a g:Nat} (h:cfgOk m a g=true):a<4294967296∧g<4294967296:=by
 simp only [cfgOk,within,Bool.and_eq_true,decide_eq_true_eq] at h;omega
theorem implRepNo (m a g:Int) (p c d:Bool) (L:List Op.Opt) (v:Value) (w:World) (hm:L.length≤maxLen) (hL:HoldsO w v L) (h:cfgOk m a g=false∨Op.right L=false) :
  Calls prog 142 #[cfgV m a g p c d,v] w fun e w'=>e=.returned (.agg #[.int .i64 0,.slice none 0 0])∧Below w.heap.size w w':=by
 have C1:=hide fun q=>implCfg m a g p c d q
 obtain ⟨hs,q0,q1,hb0⟩:=start2r w (.cells #[.int .i64 m,.int .i64 a,.int .i64 g,.bool p,.bool c,.bool d] 24) (.cells #[.int .i64 0,.slice none 0 0] 81);have HQ:=hide (And.intro hs (And.intro q0 (And.intro q1 hb0)));have C2:=hide fun q (hq:Below w.heap.size w q)=>implRightAll v L q hm (hL.below hq rfl)
 obtain ⟨ad,cp,rfl⟩:=hL.form;generalize L.length=n at *;clear hs q0 q1 hb0 hL;by_cases hc:cfgOk m a g=true
 ·have hr:Op.right L=false:=by
   rcases h with h | h
   ·rw [hc] at h;cases h
   ·exact h
  rw [hc] at C1;rw [hr] at C2;go_enter func142,ntmps142
  go_wp2_with fail
  refine (uh C1 _).mono ?_;rintro e w1 ⟨rfl,hb1⟩;have hB1:=(uh HQ).2.2.2.trans (hb1.mono (by rw [(uh HQ).1];omega));have hr1:=(hb1.block (w.heap.size+1) (by rw [(uh HQ).1];omega)).trans (uh HQ).2.2.1;have H1:=hide (And.intro hB1 hr1);clear hB1 hr1 hb1 HQ;go_wp2_with fail
  refine (uh C2 _ (uh H1).1).mono ?_;rintro e w2 ⟨rfl,hb2⟩;have hB2:=(uh H1).1.trans (hb2.mono (uh H1).1.size);have hr2:=(hb2.block (w.heap.size+1) (ge.1 (uh H1).2).1).trans (uh H1).2;obtain ⟨c0,c1,f0,f1⟩:=row2x hr2;have H2:=hide (And.intro hB2 hr2);clear hB2 hr2 hb2 H1;go_wp2
  refine bodyPost_ret (v:=.agg #[.int .i64 0,.slice none 0 0]) (by simp [results,results142,asAddr,loadAn (set2_at (uh H2).2 (.int .i64 0) (.slice none 0 0))]) rfl ⟨rfl,?_⟩;exact ((uh H2).1.setCell (p:=⟨w.heap.size+1,0,none⟩) (Nat.le_succ _) _).setCell (p:=⟨w.heap.size+1,1,none⟩) (Nat.le_succ _) _
 ·rw [Bool.not_eq_true] at hc;rw [hc] at C1;clear C2;go_enter func142,ntmps142
  go_wp2_with fail
  refine (uh C1 _).mono ?_;rintro e w1 ⟨rfl,hb1⟩;have hB2:=(uh HQ).2.2.2.trans (hb1.mono (by rw [(uh HQ).1];omega));have hr2:=(hb1.block (w.heap.size+1) (by rw [(uh HQ).1];omega)).trans (uh HQ).2.2.1;obtain ⟨c0,c1,f0,f1⟩:=row2x hr2;have H2:=hide (And.intro hB2 hr2);clear hB2 hr2 hb1 HQ;go_wp2
  refine bodyPost_ret (v:=.agg #[.int .i64 0,.slice none 0 0]) (by simp [results,results142,asAddr,loadAn (set2_at (uh H2).2 (.int .i64 0) (.slice none 0 0))]) rfl ⟨rfl,?_⟩;exact ((uh H2).1.setCell (p:=⟨w.heap.size+1,0,none⟩) (Nat.le_succ _) _).setCell (p:=⟨w.heap.size+1,1,none⟩) (Nat.le_succ _) _
theorem implRepYes (m a g:Nat) (p c d:Bool) (L:List Op.Opt) (v:Value) (w:World) (hL:HoldsO w v L) (hc:cfgOk m a g=true) (hr:Op.right L=true) :
  Calls prog 142 #[cfgV m a g p c d,v] w fun e w'=>∃ ad cp,e=.returned (.agg #[.int .i64 (mx (repV m a g p c d L)),.slice ad (fl (mx (repV m a g p c d L)) (repV m a g p c d L)).length cp])∧w'.ownsRow w.heap.size 116 2 (.slice ad (fl (mx (repV m a g p c d L)) (repV m a g p c d L)).length cp) (fl (mx (repV m a g p c d L)) (repV m a g p c d L)).length (ocells (fl (mx (repV m a g p c d L)) (repV m a g p c d L)))∧Below w.heap.size w w':=by
 have hl20:=Op.right_len hr;have hm:L.length≤maxLen:=by unfold maxLen;omega
 obtain ⟨ha,hg⟩:=cfg_bd hc;have C1:=hide fun q=>implCfg m a g p c d q
 obtain ⟨hs,q0,q1,hb0⟩:=start2r w (.cells #[.int .i64 m,.int .i64 a,.int .i64 g,.bool p,.bool c,.bool d] 24) (.cells #[.int .i64 0,.slice none 0 0] 81);have HQ:=hide (And.intro hs (And.intro q0 (And.intro q1 hb0)));have C2:=hide fun q (hq:Below w.heap.size w q)=>implRightAll v L q hm (hL.below hq rfl)
 obtain ⟨ad,cp,rfl⟩:=hL.form;have C3:=hide fun q (hq:Below w.heap.size w q)=>verdOn m a g p c d L ad cp q ha hg hr (hL.below hq rfl)
 have hVl:(repV m a g p c d L).length=L.length:=vdl_len _ _ _ _ _ _ _ _;change Hid (∀ q,Below w.heap.size w q→Calls _ _ _ q fun e w'=>∃ v,e=.returned v∧VRow q.heap.size (repV m a g p c d L) v w'∧Below q.heap.size q w') at C3
 generalize repV m a g p c d L=V at *;have C4:=hide fun v q hv=>ansOf_any V v q (by omega) hv
 clear hVl;rw [hc] at C1;rw [hr] at C2;generalize L.length=n at *;generalize mx V=X at *;generalize fl X V=F at *;clear hs q0 q1 hb0 hL;go_enter func142,ntmps142
 go_wp2_with fail
 refine (uh C1 _).mono ?_;rintro e w1 ⟨rfl,hb1⟩;have hB1:=(uh HQ).2.2.2.trans (hb1.mono (by rw [(uh HQ).1];omega));have hr1:=(hb1.block (w.heap.size+1) (by rw [(uh HQ).1];omega)).trans (uh HQ).2.2.1;have hc1:=(hb1.block w.heap.size (by rw [(uh HQ).1];omega)).trans (uh HQ).2.1;have H1:=hide (And.intro hB1 (And.intro hr1 hc1));clear hB1 hr1 hb1 HQ hc1 C1;go_wp2_with fail
 refine (uh C2 _ (uh H1).1).mono ?_;rintro e w2 ⟨rfl,hb2⟩;have hB2:=(uh H1).1.trans (hb2.mono (uh H1).1.size);have hr2:=(hb2.block (w.heap.size+1) (ge.1 (uh H1).2.1).1).trans (uh H1).2.1;have hc2:=(hb2.block w.heap.size (ge.1 (uh H1).2.2).1).trans (uh H1).2.2;obtain ⟨b0,b1,b2,b3,b4,b5⟩:=row6 hc2;have H2:=hide (And.intro hB2 hr2);clear hB2 hr2 hb2 H1 hc2 C2;go_wp2_with fail
 refine (uh C3 _ (uh H2).1).mono ?_;rintro e w3 ⟨v3,rfl,hv3,hb3⟩;have hB3:=(uh H2).1.trans (hb3.mono (uh H2).1.size);have hr3:=(hb3.block (w.heap.size+1) (ge.1 (uh H2).2).1).trans (uh H2).2;have H3:=hide (And.intro hB3 hr3);have HV3:Hid (VRow 0 V v3 w3):=hide (by obtain ⟨G,cur,e1,e2,e3⟩:=hv3;exact ⟨G,cur,e1,Nat.zero_le _,e3⟩);obtain ⟨G,cur,rfl,_,_⟩:=hv3;clear hB3 hr3 hb3 H2 C3 b0 b1 b2 b3 b4 b5;go_wp2_with fail
 refine (uh C4 _ _ (uh HV3)).mono ?_;rintro e w4 ⟨ad4,cp4,rfl,ho4,hb4⟩;have hB4:=(uh H3).1.trans (hb4.mono (uh H3).1.size);have hl3:w.heap.size+1<w3.heap.size:=(ge.1 (uh H3).2).1;have hr4:=(hb4.block (w.heap.size+1) hl3).trans (uh H3).2;obtain ⟨c0,c1,f0,f1⟩:=row2x hr4;have H4:=hide (And.intro hB4 (And.intro hr4 ho4));clear hB4 hr4 hb4 H3 ho4 C4 HV3;go_wp2
 refine bodyPost_ret (v:=.agg #[.int .i64 X,.slice ad4 F.length cp4]) (by simp [results,results142,asAddr,loadAn (set2_at (uh H4).2.1 (.int .i64 X) (.slice ad4 F.length cp4))]) rfl ⟨ad4,cp4,rfl,?_,?_⟩
 ·refine own_lower (own_same (uh H4).2.2 fun q hq _=>?_) (by omega);rw [Below.heap_setCell _ _ _ _ (by simp;omega),Below.heap_setCell _ _ _ _ (by simp;omega)]
 ·exact ((uh H4).1.setCell (p:=⟨w.heap.size+1,0,none⟩) (Nat.le_succ _) _).setCell (p:=⟨w.heap.size+1,1,none⟩) (Nat.le_succ _) _
abbrev kd (o:Op.Opt):Int × Nat:=(o.kind,o.data.size)
theorem text_size {m a g:Nat} {o:Op.Opt} (n:Nat) (h:sizeK o.kind=some o.data.size):(textK m a g o.kind n).size=o.data.size:=by
 unfold sizeK at h;unfold textK;by_cases h1:o.kind=1
 ·rw [if_pos h1] at h ⊢;injection h
 rw [if_neg h1] at h ⊢;by_cases h2:o.kind=2
 ·rw [if_pos h2] at h ⊢;injection h
 rw [if_neg h2] at h ⊢;by_cases h5:o.kind=5
 ·rw [if_pos h5] at h ⊢;injection h
 rw [if_neg h5] at h ⊢;by_cases h7:o.kind=7
 ·rw [if_pos h7] at h ⊢;injection h
 rw [if_neg h7] at h ⊢;by_cases h8:o.kind=8
 ·rw [if_pos h8] at h ⊢;injection h
 rw [if_neg h8] at h ⊢;by_cases h9:o.kind=9
 ·rw [if_pos h9] at h;injection h
 rw [if_neg h9] at h;cases h
theorem one_kd (m a g:Nat) (p c d:Bool) (o:Op.Opt):kd (one m a g p c d o).2=kd o:=by
 unfold one;split
 ·next h =>
  show (o.kind,ByteArray.size (if _ then _ else _))=_
  split
  ·rw [text_size _ h]
  ·rfl
 ·rfl
theorem verd_kd (m a g:Nat) (p c d:Bool) (l:List Op.Opt) (o:Op.Opt):kd (verd m a g p c d l o).2=kd o:=by
 unfold verd;split
 ·rfl
 ·exact one_kd _ _ _ _ _ _ _
theorem vdl_kd (m a g:Nat) (p c d:Bool) (L:List Op.Opt) (n:Nat) (hn:n≤L.length):(vdl m a g p c d L n).map (fun v=>kd v.2)=(L.take n).map kd:=by
 induction n with
 | zero=>rfl
 | succ n ih =>
  rw [vdl_succ,List.map_append,ih (by omega),List.take_succ_eq_append_getElem (by omega),List.map_append,vdAt_lt _ _ _ _ _ _ _ _ (by omega)];show _ ++ [kd _]=_ ++ [kd _]
  rw [verd_kd]
theorem repV_kd (m a g:Nat) (p c d:Bool) (L:List Op.Opt):(repV m a g p c d L).map (fun v=>kd v.2)=L.map kd:=by
 have h:=vdl_kd m a g p c d L L.length (Nat.le_refl _);rw [List.take_length] at h;exact h
theorem len_kd (F:List Op.Opt):(Op.bytes F).length=((F.map kd).map fun x=>x.2+2).sum:=by
 induction F with
 | nil=>rfl
 | cons o F ih =>
  have e1:(Op.one o).length=2+o.data.size:=by unfold Op.one;rw [List.length_append];show 2+o.data.data.toList.length=_;rfl
  rw [Op.bytes_cons,List.length_append,ih,e1];simp;omega
theorem ok_kd (F:List Op.Opt):F.all Op.ok=(F.map kd).all fun x=>decide (1≤x.1∧x.1≤255∧x.2≤20):=by
 rw [List.all_map];rfl
theorem sum_sub {l m:List (Int × Nat)} (h:l.Sublist m):(l.map fun x=>x.2+2).sum≤(m.map fun x=>x.2+2).sum:=by
 induction h with
 | slnil=>exact Nat.le_refl _
 | cons a _ ih=>simp only [List.map_cons,List.sum_cons];omega
 | cons_cons a _ ih=>simp only [List.map_cons,List.sum_cons];omega
theorem opOk_sub {F G:List Op.Opt} (h:(F.map kd).Sublist (G.map kd)) (hG:opOk G=true):opOk F=true:=by
 unfold opOk Op.right at hG ⊢;simp only [Bool.and_eq_true,decide_eq_true_eq] at hG ⊢;obtain ⟨⟨h1,h2⟩,h3⟩:=hG;rw [len_kd] at h3;rw [ok_kd] at h2;have hl:=h.length_le;rw [List.length_map,List.length_map] at hl;refine ⟨⟨by omega,?_⟩,?_⟩
 ·rw [ok_kd];exact List.all_eq_true.2 fun x hx=>List.all_eq_true.1 h2 x (h.subset hx)
 ·rw [len_kd];exact Nat.le_trans (sum_sub h) h3
theorem fl_sub (x:Int) (V:List (Int × Op.Opt)):((fl x V).map kd).Sublist (V.map fun v=>kd v.2):=by
 unfold fl;rw [List.map_map];exact List.filter_sublist.map _
theorem repV_ok (m a g:Nat) (p c d:Bool) {L:List Op.Opt} (h:opOk L=true) (x:Int):opOk (fl x (repV m a g p c d L))=true:=by
 refine opOk_sub ?_ h;have:=fl_sub x (repV m a g p c d L)
 rw [repV_kd] at this;exact this
def ofKs (F A:List Op.Opt):List Op.Opt:=F.filter fun o=>A.any fun x=>x.kind == o.kind
theorem ofKs_ok {F:List Op.Opt} (h:opOk F=true) (A:List Op.Opt):opOk (ofKs F A)=true:=opOk_sub (List.filter_sublist.map _) h
theorem foldl_max (l:List (Int × Op.Opt)) (m:Int):m≤l.foldl (fun m v=>max m v.1) m∧∀ v ∈ l,v.1≤l.foldl (fun m v=>max m v.1) m:=by
 induction l generalizing m with
 | nil=>exact ⟨Int.le_refl _,fun v hv=>by simp at hv⟩
 | cons a l ih =>
  obtain ⟨h1,h2⟩:=ih (max m a.1);refine ⟨by simp only [List.foldl_cons];omega,fun v hv=>?_⟩;rcases List.mem_cons.1 hv with rfl | hv
  ·simp only [List.foldl_cons];omega
  ·exact h2 v hv
theorem mx_le {l:List (Int × Op.Opt)} {v:Int × Op.Opt} (h:v ∈ l):v.1≤mx l:=(foldl_max l 2).2 v h
theorem nak_one (m a g:Nat) (p c d:Bool) (L:List Op.Opt) (h:mx (repV m a g p c d L)=3):L.Pairwise fun x y=>x.kind≠y.kind:=by
 refine List.pairwise_iff_getElem.2 fun i j hi hj hij e=>?_
 have hm:vdAt m a g p c d L j ∈ repV m a g p c d L:=List.mem_map.2 ⟨j,List.mem_range.2 hj,rfl⟩;have h4:=mx_le hm;rw [h,vdAt_lt _ _ _ _ _ _ _ _ hj] at h4;have hw:wasIn L[j].kind (L.take j)=true:=by
  refine List.any_eq_true.2 ⟨L[i],?_,by simpa using e⟩;exact List.mem_take_iff_getElem.2 ⟨i,by omega,rfl⟩
 unfold verd at h4;rw [if_pos hw] at h4;exact absurd (show (4:Int)≤3 from h4) (by decide)
def nakL (F A:List Op.Opt):List Op.Opt:=F.flatMap fun o=>(A.filter fun x=>x.kind == o.kind).map fun _=>o
theorem one_of {A:List Op.Opt} (h:A.Pairwise fun x y=>x.kind≠y.kind) (o:Op.Opt):((A.filter fun x=>x.kind == o.kind).map fun _=>o)=if (A.any fun x=>x.kind == o.kind)=true then [o] else []:=by
 induction A with
 | nil=>rfl
 | cons x A ih =>
  have h2:=List.pairwise_cons.1 h;by_cases e:x.kind=o.kind
  ·have hn:(A.filter fun x=>x.kind == o.kind)=[]:=List.filter_eq_nil_iff.2 fun y hy hk=>h2.1 y hy (e.trans (by simpa using hk:y.kind=o.kind).symm)
   have he:(x.kind == o.kind)=true:=by simpa using e
   rw [List.filter_cons,hn,List.any_cons];rw [he];rfl
  ·have he:(x.kind == o.kind)=false:=by simpa using e
   rw [List.filter_cons,List.any_cons];rw [he,Bool.false_or];exact ih h2.2
theorem nakL_of {F A:List Op.Opt} (h:A.Pairwise fun x y=>x.kind≠y.kind):nakL F A=ofKs F A:=by
 unfold nakL ofKs;induction F with
 | nil=>rfl
 | cons o F ih =>
  rw [List.flatMap_cons,ih,one_of h,List.filter_cons];split
  ·rfl
  ·rfl
theorem fl_one (m a g:Nat) (p c d:Bool) (L:List Op.Opt) (h:mx (repV m a g p c d L)=3) (x:Int):(fl x (repV m a g p c d L)).Pairwise fun x y=>x.kind≠y.kind:=by
 have h1:=fl_sub x (repV m a g p c d L);rw [repV_kd] at h1;have h2:(L.map kd).Pairwise fun x y=>x.1≠y.1:=List.pairwise_map.2 (nak_one m a g p c d L h)
 have h3:((fl x (repV m a g p c d L)).map kd).Pairwise fun x y=>x.1≠y.1:=List.Pairwise.sublist h1 h2
 rw [List.pairwise_map] at h3;exact h3
def pkcells (fs:List Op.Pk):List Value:=fs.flatMap fun f=>[.int .i64 f.code,.int .i64 f.id,.string f.data]
theorem pkcells_len (fs:List Op.Pk):(pkcells fs).length=fs.length*3:=by
 induction fs with
 | nil=>rfl
 | cons f fs ih=>simp [pkcells] at ih ⊢;omega
theorem pkcells_append (fs gs:List Op.Pk):pkcells (fs ++ gs)=pkcells fs ++ pkcells gs:=by simp [pkcells]
theorem pkcells_get (fs:List Op.Pk) (i:Nat) (f:Op.Pk) (h:fs[i]?=some f):(pkcells fs)[i*3]?=some (.int .i64 f.code)∧(pkcells fs)[i*3+1]?=some (.int .i64 f.id)∧(pkcells fs)[i*3+2]?=some (.string f.data):=by
 induction fs generalizing i with
 | nil=>simp at h
 | cons d fs ih =>
  cases i with
  | zero =>
   simp at h;subst h;exact ⟨rfl,rfl,rfl⟩
  | succ i =>
   have:=ih i (by simpa using h)
   have e:pkcells (d :: fs)=.int .i64 d.code :: .int .i64 d.id :: .string d.data :: pkcells fs:=rfl;rw [e,show (i+1)*3=i*3+3 by omega];exact this
theorem pkinfo:∃ i,prog.info? 35=some i∧i.zero=some (.agg #[.int .i64 0,.int .i64 0,.string ⟨#[]⟩])∧i.size=3∧i.bytes=32:=by
 have h:(prog.info? 35).map (fun i=>(i.zero,i.size,i.bytes))=some (some (.agg #[.int .i64 0,.int .i64 0,.string ⟨#[]⟩]),3,32):=by kernel_rfl
 obtain ⟨i,hi,hzz⟩:=Option.map_eq_some_iff.1 h;simp only [Prod.mk.injEq] at hzz;exact ⟨i,hi,hzz.1,hzz.2.1,hzz.2.2⟩
def HoldsP (w:World) (v:Value) (F:List Op.Pk):Prop :=
 (∃ ad cp,v=.slice ad 0 cp∧F=[])∨∃ g cp cur,v=.slice (some ⟨g,0,none⟩) F.length cp∧w.heap[g]?=some (.cells cur 35)∧F.length*3≤cur.size∧∀ j,j<F.length*3→cur[j]?=(pkcells F)[j]?
theorem HoldsP.own {w:World} {base:Nat} {v:Value} {F:List Op.Pk} (h:w.ownsRow base 35 3 v F.length (pkcells F)):HoldsP w v F:=by
 rcases h.2 with ⟨h1,h2⟩ | ⟨g,cap,cur,h1,_,h3,h4,_,h6,h7⟩
 ·exact Or.inl ⟨_,_,h1,List.eq_nil_of_length_eq_zero h2⟩
 ·refine Or.inr ⟨g,cap,cur,h1,h3,by rw [h6];omega,fun j hj=>?_⟩;rw [← h7,List.getElem?_take,if_pos hj,Array.getElem?_toList]
theorem HoldsP.below {n:Nat} {w w':World} {v:Value} {F:List Op.Pk} (h:HoldsP w v F) (hb:Below n w w') (hn:n=w.heap.size):HoldsP w' v F:=by
 subst hn;exact h.imp id fun ⟨g,cp,cur,h1,h2,h3⟩=>⟨g,cp,cur,h1,(hb.block g (ge.1 h2).1).trans h2,h3⟩
theorem HoldsP.form {w:World} {v:Value} {F:List Op.Pk} (h:HoldsP w v F):∃ ad cp,v=.slice ad F.length cp:=by
 rcases h with ⟨ad,cp,h1,h2⟩ | ⟨g,cp,cur,h1,_⟩
 ·exact ⟨ad,cp,by rw [h1,h2];rfl⟩
 ·exact ⟨_,_,h1⟩
theorem HoldsP.other {w w':World} {v:Value} {F:List Op.Pk} (h:HoldsP w v F) (hw:∀ g,v.ownBlock=some g→w'.heap[g]?=w.heap[g]?):HoldsP w' v F:=by
 rcases h with ⟨ad,cp,e,e0⟩ | ⟨g,cp,cur,e,q1,q2⟩
 ·exact Or.inl ⟨ad,cp,e,e0⟩
 ·exact Or.inr ⟨g,cp,cur,e,(hw g (by rw [e];rfl)).trans q1,q2⟩
theorem HoldsP.lt {w:World} {v:Value} {F:List Op.Pk} (h:HoldsP w v F) (hF:F≠[]) (g:Nat) (hg:v.ownBlock=some g):g<w.heap.size:=by
 rcases h with ⟨_,_,_,e⟩ | ⟨g',cp,cur,e,q1,_⟩
 ·exact absurd e hF
 ·rw [e] at hg;cases hg;exact (ge.1 q1).1
theorem append_pk {wr:World} {ops:Array Oper} {rest:List Oper} {o:Oper} {a:Act} {Q:Exit→Act→World→Prop} (hgd:o.guard=none) (s x:Operand)
  (ho:o.op=.call { callee:=.builtin .append,args:=#[s,x],argTypes:=#[39,39] })
  (base:Nat) (v:Value) (F:List Op.Pk) (n:Nat) (hn:F.length=n) (hs:a.eval s=v) (hown:wr.ownsRow base 35 3 v n (pkcells F)) (cd id:Int) (dt:ByteArray) (hx:a.eval x=.slice (some ⟨wr.heap.size,0,none⟩) 1 1) (hlen:n≤1000) (hbase:base≤wr.heap.size)
  (h:∀ v' w',w'.ownsRow base 35 3 v' (n+1) (pkcells (F ++ [⟨cd,id,dt⟩]))→(wr.alloc (.cells #[.int .i64 cd,.int .i64 id,.string dt] 35)).grownBy w' v.ownBlock→wpList prog ops Q rest (a.put o.dst v') w'):wpList prog ops Q (o :: rest) a (wr.alloc (.cells #[.int .i64 cd,.int .i64 id,.string dt] 35)):=by
 obtain ⟨i0,hi0,hz0,hz1,hz2⟩:=pkinfo;refine wpList_append_own _ hgd s x 39 ho base 35 i0 _ 3 32 underlying39 hi0 hz0 hz1 hz2 rfl (by decide) v n (pkcells F) hs (hown.alloc _) ⟨wr.heap.size,0,none⟩ 1 1 [.int .i64 cd,.int .i64 id,.string dt] hx rfl ?_ ?_ ?_ ?_ ?_ ?_
 ·intro i u hu;rw [Addr.add_lit,Nat.zero_add,World.cell?_alloc_at _ _ _ _ rfl,← hu];simp
 ·intro u hu;simp only [List.mem_cons,List.not_mem_nil,or_false] at hu;rcases hu with rfl | rfl | rfl<;>rfl
 ·unfold maxLen;omega
 ·omega
 ·simp;omega
 ·intro v' w2 hown2 hg2 _;refine h v' w2 ?_ hg2;rw [pkcells_append];exact hown2
def dgf:Nat→Nat→ByteArray→ByteArray
 | 0,_,o=>o
 | f+1,k,o=>if k=0 then o else dgf f (k / 10) (strOfNums [((48+k % 10:Nat):Int)] ++ o)
def mtx (k:Nat):ByteArray:=⟨#[109]⟩ ++ dgf k k ⟨#[]⟩
def mpk (k n:Nat):List Op.Pk:=(List.range n).map fun i=>⟨((k+3*i:Nat):Int),((k+3*i+1:Nat):Int),mtx (k+3*i+2)⟩
def mtl (k n:Nat):List ByteArray:=(List.range n).map fun i=>mtx (k+i)
def ArgO (w:World) (v:Value) (F:List Op.Opt):Prop :=
 (∃ a cap,v=.slice a F.length cap)∧∀ i (hi:i<F.length),∃ b o cap,v=.slice (some ⟨b,o,none⟩) F.length cap∧b<w.heap.size∧w.cell? ⟨b,o+i*2,none⟩=some (.int .i64 F[i].kind)∧w.cell? ⟨b,o+i*2+1,none⟩=some (.string F[i].data)∧F[i].data.size≤maxLen
theorem ArgO.below {w w':World} {v:Value} {F:List Op.Opt} (h:ArgO w v F) (hb:Below w.heap.size w w'):ArgO w' v F :=
 ⟨h.1,fun i hi=>by
  obtain ⟨b,o,cap,h1,h2,h3,h4,h5⟩:=h.2 i hi;exact ⟨b,o,cap,h1,Nat.lt_of_lt_of_le h2 hb.size,(hb.cell (p:=⟨b,o+i*2,none⟩) h2).trans h3,(hb.cell (p:=⟨b,o+i*2+1,none⟩) h2).trans h4,h5⟩⟩
theorem toO (x:Int) (t:ByteArray) (w:World) :
  Calls prog 100 #[.agg #[.int .i64 x,.string t]] w fun e w'=>e=.returned (.agg #[.int .i64 x,.string t])∧Below w.heap.size w w':=by
 go_enter func100,ntmps100
 go_wp2
 refine bodyPost_ret (v:=.agg #[.int .i64 x,.string t]) (by simp [results,results100,go_sem]) rfl ⟨rfl,?_⟩;exact (((Below.refl _ _).alloc (Nat.le_refl _) _).alloc (by simp) _).alloc (by simp;omega) _
theorem set_two2 (cur':Array Value) (L:List Value) (i:Nat) (A B:Value) (hi:i*2+1<cur'.size) (h1:L[i*2]?=some A) (h2:L[i*2+1]?=some B) (ha:∀ j,j<i*2→cur'[j]?=L[j]?) :
  ∀ j,j<(i+1)*2→((cur'.setIfInBounds (i*2) A).setIfInBounds (i*2+1) B)[j]?=L[j]?:=by
 intro j hj;rw [Array.getElem?_setIfInBounds];by_cases e1:i*2+1=j
 ·rw [if_pos e1,if_pos (by simpa using hi),← e1,h2]
 ·rw [if_neg e1,Array.getElem?_setIfInBounds];by_cases e2:i*2=j
  ·rw [if_pos e2,if_pos (by omega),← e2,h1]
  ·rw [if_neg e2];exact ha j (by omega)
theorem toOs (v:Value) (F:List Op.Opt) (w:World) (hn:F.length≤1048576) (h:ArgO w v F) :
  Calls prog 52 #[v] w fun e w'=>∃ u,e=.returned u∧HoldsO w' u F∧(∀ q,u.ownBlock=some q→w.heap.size≤q)∧Below w.heap.size w w':=by
 obtain ⟨i0,hi0,hz0,hz1,hz2⟩:=oinfo;obtain ⟨va,vc,rfl⟩:=h.1;have HA:=hide h;clear h;obtain ⟨n,hnn⟩:∃ n,F.length=n:=⟨_,rfl⟩;rw [hnn] at hn ⊢;go_enter func52,ntmps52
 go_wp2_with (first
  | (at_make;refine wpList_make_full w rfl _ _ 25 rfl w.heap.size 116 i0 _ 2 underlying25 hi0 hz0 hz1 .i64 .i64 _ _ n rfl rfl rfl rfl (by rw [hz2];omega) (by unfold maxLen;omega) (Nat.le_refl _) ?_;rintro w1 ho1 hg1;have HO1:=hide ho1;have HG1:=hide hg1;clear ho1 hg1))
 have hb1:Below w.heap.size w w1:=(Below.refl _ _).grown (uh HG1) (Nat.le_refl _) (fun k hk=>by cases hk);obtain ⟨cur,hc1,hc2⟩:∃ cur,w1.heap[w.heap.size]?=some (.cells cur 116)∧cur.size=n*2:=by
  rcases (uh HO1).2 with ⟨k,_⟩ | ⟨g',cap,cur,k1,_,k3,_,_,k6,_⟩
  ·cases k
  ·simp only [Value.slice.injEq,Option.some.injEq,Addr.mk.injEq,true_and,and_true] at k1;obtain ⟨rfl,rfl⟩:=k1;exact ⟨cur,k3,k6⟩
 have HC1:=hide hc1;have HS:=hide (And.intro hc2 hb1);clear HO1 HG1 hc1 hc2 hb1;go_loopw [4] (fun y wr=>∃ (i:Nat),i≤n∧y=.int .i64 i∧(∃ cur',wr.heap[w.heap.size]?=some (.cells cur' 116)∧cur'.size=n*2∧∀ j,j<i*2→cur'[j]?=(ocells F)[j]?)∧Below w.heap.size w wr) (fun y _=>n - (intOf y).toNat)
 case atStart=>exact ⟨0,Nat.zero_le _,rfl,⟨cur,uh HC1,(uh HS).1,fun j hj=>by omega⟩,(uh HS).2⟩
 case round =>
  obtain ⟨i,hi,rfl,⟨cur',hg',hs',ha'⟩,hb⟩:=hrel;have hbs:=hb.size;clear HC1 HS;have hgl:w.heap.size<wr.heap.size:=(ge.1 hg').1;by_cases hlt:i<n
  ·have e1:(i:Int)<(n:Int):=by omega
   obtain ⟨b,o,cap,hvf,hbl,k0,k1,hsz⟩:=(uh HA).2 i (by omega);have hvf':va=some ⟨b,o,none⟩:=by
    simp only [Value.slice.injEq] at hvf;exact hvf.1
   subst hvf';have hget:=ocells_get F i (F[i]'(by omega)) (List.getElem?_eq_getElem (by omega));generalize hO:F[i]'(by omega)=op at *;obtain ⟨kd,dt⟩:=op;dsimp only at k0 k1 hsz hget;have c0:=(hb.cell (p:=⟨b,o+i*2,none⟩) hbl).trans k0;have c1:=(hb.cell (p:=⟨b,o+i*2+1,none⟩) hbl).trans k1;have C:=hide fun v=>toO kd dt v
   have HGET:=hide hget;have HG':=hide hg';have HA':=hide ha';clear k0 k1 hvf hO hget hg' ha';go_wp2_with fail
   refine (uh C _).mono ?_;rintro e w2 ⟨rfl,hb2⟩;have hg2:=(hb2.block w.heap.size hgl).trans (uh HG');have hB2:=hb.trans (hb2.mono hbs);obtain ⟨y0,hy0⟩:∃ y,w2.cell? ⟨w.heap.size,i*2,none⟩=some y:=⟨cur'[i*2]'(by omega),by rw [cr hg2,Array.getElem?_eq_getElem (by omega)]⟩;obtain ⟨y1,hy1⟩:∃ y,w2.cell? ⟨w.heap.size,i*2+1,none⟩=some y:=⟨cur'[i*2+1]'(by omega),by rw [cr hg2,Array.getElem?_eq_getElem (by omega)]⟩;have f0:w2.frozen? ⟨w.heap.size,i*2,none⟩=false:=frz hg2 _;have f1:w2.frozen? ⟨w.heap.size,i*2+1,none⟩=false:=frz hg2 _;have HG2:=hide hg2;clear hg2 hb2 c0 c1 C;go_wp2
   go_roundw
   case rel =>
    refine ⟨i+1,by omega,by go_num,⟨_,heap_setCell_same _ _ (i*2+1) _ _ _ (heap_setCell_same _ _ (i*2) _ _ _ (uh HG2)),by simp [hs'],?_⟩,(hB2.setCell (p:=⟨w.heap.size,i*2,none⟩) (Nat.le_refl _) _).setCell (p:=⟨w.heap.size,i*2+1,none⟩) (Nat.le_refl _) _⟩;exact set_two2 cur' _ i _ _ (by omega) (uh HGET).1 (uh HGET).2 (uh HA')
   case measure=>simp [intOf];omega
  ·have e:i=n:=by omega
   subst e;have d1:¬ ((i:Int)<(i:Int)):=by omega
   have HH:=hide (And.intro hg' ha');clear hg' ha';go_wp2
   go_ret
   refine ⟨_,rfl,Or.inr ⟨w.heap.size,i,cur',by rw [hnn];rfl,(uh HH).1,by rw [hnn];omega,by rw [hnn];exact (uh HH).2⟩,?_,hb⟩;intro q hq;cases hq;exact Nat.le_refl _
theorem toCfg (m a g:Int) (p c d:Bool) (w:World) :
  Calls prog 51 #[.agg #[.int .i64 m,.int .i64 a,.int .i64 g,.bool p,.bool c,.bool d]] w fun e w'=>e=.returned (.agg #[.int .i64 m,.int .i64 a,.int .i64 g,.bool p,.bool c,.bool d])∧Below w.heap.size w w':=by
 go_enter func51,ntmps51
 go_wp2
 refine bodyPost_ret (v:=.agg #[.int .i64 m,.int .i64 a,.int .i64 g,.bool p,.bool c,.bool d]) (by simp [results,results51,go_sem]) rfl ⟨rfl,?_⟩;exact (((Below.refl _ _).alloc (Nat.le_refl _) _).alloc (by simp) _).alloc (by simp;omega) _
end Go.Proofs.YtahpjlbaagkdoaaGreatDoor
