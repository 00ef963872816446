/- The model sends frames, and takes the first frame off a line; what lay in memory stands but for the end and its line's row; no condition but those named. The model's frames put into a new row; what lay in memory stands; no condition but those named. The model takes the first frame off a line; what lay in memory stands but for the end. The model's world of a numbered line, laid in memory: two ends, their lines, what was got and what is counted; what stands while it is worked on; no condition but those named. Several texts, wherever their row lies, put behind others in a row: it stays where it is, or lies in a new block; what lay in memory stands but for the row that grows; no condition but those named. The law's words on rows of numbers: two held against each other, marked by numbers, and whether the marks are there; what lay in memory stands but for the marked row. -/
import Derived.Test.YtkcghhkkepndnaaGreatDoorS31
import Derived.Test.YtkcghhkkepndnaaGreatDoorS32
import Derived.Test.YtkcghhkkepndnaaGreatDoorS06
import Derived.Test.YtkcghhkkepndnaaGreatDoorS03
import Derived.Test.YtkcghhkkepndnaaGreatDoorS01
import Derived.Test.YtkcghhkkepndnaaGreatDoorS02
import Derived.Test.YtkcghhkkepndnaaGreatDoorShW
namespace Go.Proofs.YtkcghhkkepndnaaGreatDoor
open Go.RowKit
theorem step_append_km {W:World} {o:Oper} {a:Act} {K:Act→World→Prop} {Q:Exit→Act→World→Prop} (s x:Operand) (ho:o.op=.call { callee:=.builtin .append,args:=#[s,x],argTypes:=#[68,68] })
  {base:Nat} {v sv:Value} {P F:List Sf} (hs:a.eval s=v) (hx:a.eval x=sv) (hv:HoldsKm W base v P) (hsv:HoldsPm W sv F) (hP:P.length≤1000000) (hF:F.length≤1000000) (hbase:base≤W.heap.size)
  (h:∀ v' w',HoldsKm w' base v' (P ++ F)→W.grownBy w' v.ownBlock→(∀ g,v'.ownBlock=some g→v.ownBlock=some g∨W.heap.size≤g)→K (a.put o.dst v') w'):o.wp Tryz.prog a W K Q:=by
 obtain ⟨v',w',hr,h2,h3,h4⟩:=run_append_km (W:=W) o.type hv hsv hP hF hbase
 unfold Oper.wp execOp
 simp only [ho,resolve,invoke,builtin,Sem.run_bind,Sem.run_pure,Result.andThen_ok,List.map_toArray,List.map_cons,List.map_nil,hs,hx,hr]
 exact h v' w' h2 h3 h4
theorem take40_full (L:List Sf) (S:List Nb) (i:Nat) (hf:¬ ((L ++ (S.take i).map frameOfF).take 40).length<40):(L ++ (S.take i).map frameOfF).take 40=(L ++ S.map frameOfF).take 40:=by
 have h1:S=S.take i ++ S.drop i:=(List.take_append_drop i S).symm
 conv=>rhs;rw [h1,List.map_append,← List.append_assoc]
 have h2:40≤(L ++ (S.take i).map frameOfF).length:=by
  rw [List.length_take] at hf
  omega
 rw [List.take_append_of_le_length h2]
theorem one_row (y:World) (t b:ByteArray):HoldsPm (y.alloc (.cells #[.string b,.string t] 93)) (.slice (some ⟨y.heap.size,0,none⟩) 1 1) [⟨t,b⟩]:=by
 refine Or.inr ⟨_,1,_,rfl,heap_alloc_new _ _,Nat.le_refl 2,fun j hj=>?_⟩
 have:j=0∨j=1:=by simp at hj;omega
 rcases this with rfl | rfl<;>rfl
structure Sk (base:Nat) (W0:World) (S:Nat) (s1:Nl) (vq vl vf:Value) (F:List Nb) (y:World):Prop where
 sl:∃ vl',Sm base y S s1 vq vl'∧Fz (fun k=>k=S) (Kv vl) (Kv vl') W0 y
 hn:HoldsN y vf F
set_option maxHeartbeats 16000000 in
set_option maxRecDepth 100000 in
theorem sSend {base:Nat} {W:World} {S:Nat} {s:Nl} {vq vl:Value} (h:Sm base W S s vq vl) {a3:Option Addr} {c3:Nat} {F:List Nb} (hF:HoldsN W (.slice a3 F.length c3) F) (hl:F.length≤100) :
  Calls Tryz.prog 50 #[.pointer (some ⟨S,0,none⟩),.slice a3 F.length c3] W fun e W'=>e=.returned (.tuple #[])∧∃ vl',Sm base W' S (lnN s ((s.ln ++ F.map frameOfF).take 40)) vq vl'∧Fz (fun k=>k=S) (Kv vl) (Kv vl') W W':=by
 have hKP:Hid (∀ (y:World) (K':Nat→Prop),Fz (fun k=>k=S) (Kv vl) K' W y→HoldsN y (.slice a3 F.length c3) F):=hide fun y K' f=>by
  refine hF.other fun g cur hv hg=>f.same g (Array.getElem?_eq_some_iff.1 hg).1 (typ_ne hg h.row (by decide)) fun e=>?_
  obtain ⟨_,_,c,h3⟩:=h.hl.blk g e
  exact typ_ne hg h3 (by decide) rfl
 have h00:lnN s ((s.ln ++ (F.take 0).map frameOfF).take 40)=s:=by
  rw [List.take_zero,List.map_nil,List.append_nil,List.take_of_length_le h.le]
  rfl
 have FO:Hid (Sk base W S (lnN s ((s.ln ++ (F.take 0).map frameOfF).take 40)) vq vl (.slice a3 F.length c3) F W):=hide (by
  rw [h00]
  exact ⟨⟨vl,h,Fz.refl _ _ _⟩,hF⟩)
 clear h00 hF h
 generalize hn:F.length=n at *
 go_enter Tryz.func50,Tryz.ntmps50
 go_wp2_with fail
 go_loopw [4] (fun p wr=>∃ i:Nat,i≤n∧p=.int .i64 i∧Sk base W S (lnN s ((s.ln ++ (F.take i).map frameOfF).take 40)) vq vl (.slice a3 n c3) F wr) (fun p _=>n - (intOf p).toNat)
 case atStart=>exact ⟨0,Nat.zero_le _,rfl,uh FO⟩
 case round =>
  obtain ⟨i,hi,rfl,hF⟩:=hrel
  clear FO
  by_cases hlt:i<n
  ·have d1:(i:Int)<(n:Int):=by omega
   obtain ⟨vl',hsl,hf⟩:=hF.sl
   have c12:=hsl.cl.1
   obtain ⟨la,lc,hvl⟩:=hsl.hl.form
   obtain ⟨q9,hq9⟩:∃ q9,((s.ln ++ (F.take i).map frameOfF).take 40).length=q9:=⟨_,rfl⟩
   rw [show (lnN s ((s.ln ++ (F.take i).map frameOfF).take 40)).ln.length=q9 from hq9] at hvl
   by_cases h40:q9<40
   ·have d2:(q9:Int)<40:=by omega
    obtain ⟨g,ea3,cur,q1,q3⟩:∃ g,a3=some ⟨g,0,none⟩∧∃ cur,wr.heap[g]?=some (.cells cur 96)∧∀ j,j<n*4→cur[j]?=(nbcells F)[j]?:=by
     rcases hF.hn with ⟨ad,cp,e,e2⟩ | ⟨g,cp,cur,e,q1,_,q3⟩
     ·rw [e2] at hn;simp at hn;omega
     ·injection e with e _ _
      exact ⟨g,e,cur,q1,fun j hj=>q3 j (by omega)⟩
    subst ea3
    have hi2:i<F.length:=by omega
    obtain ⟨x0,x1,x2,x3⟩:=nb_at q1 (by rw [hn];exact q3) hi2
    have C1:=hide fun v=>sNbBytes F[i] v
    have hts:=told_sz9 F[i]
    have hpk:=packV_33 (nbTold F[i]) (by omega)
    have C2:=hide fun v=>specPack_at 33 (nbTold F[i]) true true v (by omega) (by omega)
    have hh33:Pp.head 33 true true=[33]:=by decide
    rw [hh33,← hpk] at C2
    have hps:(packV 33 (nbTold F[i]) true true).size≤300:=(frameOf_ok F[i]).t
    have C3:=hide fun v=>specFrameAll (packV 33 (nbTold F[i]) true true) 0 false v (by unfold maxLen;omega)
    have HE40:=hide (putF40 s.ln F i hi2)
    have HSL:=hide (And.intro hsl hf)
    clear hF hsl hf q1 q3 hpk hts hh33
    obtain ⟨fF,hfF⟩:∃ fF,frameOfF F[i]=fF:=⟨_,rfl⟩
    have hft:packV 33 (nbTold F[i]) true true=fF.text:=by rw [← hfF];rfl
    have hfb:frameV fF.text 0 false=fF.bytes:=by rw [← hft,← hfF];rfl
    rw [hft] at C2 C3 hps
    rw [hfb] at C3
    rw [hfF] at HE40
    clear hfF hft hfb
    generalize nbTold F[i]=tN at *
    generalize F[i]=p at *
    obtain ⟨pk,pn,pr,pt⟩:=p
    dsimp only [nbV] at x0 x1 x2 x3 C1
    subst hvl
    have hS12:=hide (uh HSL).1.cl
    go_wp2_with fail
    refine (uh C1 _).mono ?_
    rintro e z1 ⟨rfl,hb1⟩
    have HB1:=hide hb1
    clear hb1
    go_wp2_with fail
    refine (uh C2 _).mono ?_
    rintro e z2 ⟨rfl,hb2⟩
    have HB2:=hide ((uh HB1).trans (hb2.mono (uh HB1).size))
    clear hb2 HB1 C1 C2 x0 x1 x2 x3
    go_upto_region 4 with fail
    have hbd:Below wr.heap.size wr z2.drew:=(uh HB2).drew
    have HSD:=hide (And.intro ((uh HSL).1.below hbd) ((uh HSL).2.trans (Fz.of_below hbd)))
    clear HSL HB2 hbd hS12 c12
    refine wp_region_held_drew (S:=fun _=>True) (by kernel_rfl) trivial (fun hHeld=>?_)
    generalize z2.drew=zd at HSD ⊢
    have c12:zd.cell? ⟨S,12,none⟩=some (.slice la q9 lc):=(uh HSD).1.cl.1
    refine t2 0 ?_
    refine t2 1 ?_
    refine t2 2 ?_
    refine t2 3 ?_
    refine t2 5 ?_
    refine t2 7 ?_
    refine wpAnyH_ready (rs:=[4,6]) (by kernel_rfl) (by simp) (AllReadyH.cons rfl (fun K hK=>?_) (AllReadyH.cons rfl (fun K hK=>?_) (AllReadyH.nil)))
    ·go_simp
     refine ro hK trivial fun _=>?_
     clear hK K
     refine r1 6 rfl (fun K hK=>?_)
     go_simp
     refine (uh C3 zd).mono ?_
     rintro e z3 ⟨rfl,hb3⟩
     have HS3:=hide (And.intro ((uh HSD).1.below hb3) ((uh HSD).2.trans (Fz.of_below hb3)))
     clear hb3 C3 c12 HSD
     refine ro hK trivial fun _=>?_
     clear hK K
     refine t2 8 ?_
     refine r1 9 rfl (fun K hK=>?_)
     have hb4:Below z3.heap.size z3 (z3.alloc (.cells #[.string fF.bytes,.string fF.text] 93)):=(Below.refl _ _).alloc (Nat.le_refl _) _
     have HS4:=hide (And.intro ((uh HS3).1.below hb4) (And.intro ((uh HS3).2.trans (Fz.of_below hb4)) (one_row z3 fF.text fF.bytes)))
     go_simp
     refine ro hK trivial fun _=>?_
     clear hK K hb4 HS3
     generalize z3.heap.size=N4 at HS4 ⊢
     generalize z3.alloc (.cells #[.string fF.bytes,.string fF.text] 93)=z4 at HS4 ⊢
     refine r1 10 rfl (fun K hK=>?_)
     refine step_append_km _ _ rfl rfl rfl (uh HS4).1.hl (uh HS4).2.2 (by show ((s.ln ++ (F.take i).map frameOfF).take 40).length≤1000000;omega) (by simp) (uh HS4).1.bs ?_
     intro v7 y7 g1 g2 g3
     have nS:some S≠(Value.slice la q9 lc).ownBlock:=fun e=>by
      obtain ⟨_,_,c,h3⟩:=(uh HS4).1.hl.blk S e.symm
      exact typ_ne h3 (uh HS4).1.row (by decide) rfl
     have r7:=(g2.block S (uh HS4).1.lt nS).trans (uh HS4).1.row
     have x7:∃ u,y7.cell? ⟨S,12,none⟩=some u:=⟨_,by rw [cr r7];rfl⟩
     obtain ⟨u7,x7⟩:=x7
     have f7:y7.frozen? ⟨S,12,none⟩=false:=frz r7 _
     have hle:(((lnN s ((s.ln ++ (F.take i).map frameOfF).take 40)).ln) ++ [(⟨fF.text,fF.bytes⟩:Sf)]).length≤40:=by
      rw [List.length_append]
      show ((s.ln ++ (F.take i).map frameOfF).take 40).length+1≤40
      omega
     obtain ⟨h8,h9⟩:=(uh HS4).1.setLine g1 g2 g3 hle
     have H7:Hid (Sk base W S (lnN s ((s.ln ++ (F.take (i+1)).map frameOfF).take 40)) vq vl (.slice (some ⟨g,0,none⟩) n c3) F (y7.setCell ⟨S,12,none⟩ v7)):=hide (by
      have hff:=(uh HS4).2.1.trans h9
      refine ⟨⟨v7,?_,hff⟩,uh hKP _ _ hff⟩
      have e40:=uh HE40
      rw [hq9,if_pos h40] at e40
      rw [← e40]
      exact h8)
     obtain ⟨a7,c7,e7⟩:=g1.form
     obtain ⟨n7,e9⟩:∃ n7,((lnN s ((s.ln ++ (F.take i).map frameOfF).take 40)).ln ++ [(⟨fF.text,fF.bytes⟩:Sf)]).length=n7:=⟨_,rfl⟩
     rw [e9] at e7
     clear e9 g1 g2 g3 nS r7 h8 h9 hle HS4
     subst e7
     refine ro hK trivial fun _=>?_
     clear hK K
     refine t2 11 ?_
     refine t2 12 ?_
     refine r1 13 rfl (fun K hK=>?_)
     go_simp
     refine ro hK trivial fun _=>?_
     clear hK K x7 f7
     refine dn ?_ _
     generalize y7.setCell ⟨S,12,none⟩ (.slice a7 n7 c7)=y8 at H7 ⊢
     go_wp2_with fail
     go_roundw
     case rel=>exact ⟨i+1,by omega,by go_num,uh H7⟩
     case measure=>simp [intOf];omega
    ·go_simp
     refine (uh C3 zd).mono ?_
     rintro e z3 ⟨rfl,hb3⟩
     have HS3:=hide (And.intro ((uh HSD).1.below hb3) ((uh HSD).2.trans (Fz.of_below hb3)))
     clear hb3 C3 c12 HSD
     refine ro hK trivial fun _=>?_
     clear hK K
     refine t2 8 ?_
     refine wpAnyH_ready (rs:=[4,9]) (by kernel_rfl) (by simp) (AllReadyH.cons rfl (fun K hK=>?_) (AllReadyH.cons rfl (fun K hK=>?_) (AllReadyH.nil)))
     ·have c12:z3.cell? ⟨S,12,none⟩=some (.slice la q9 lc):=(uh HS3).1.cl.1
      go_simp
      refine ro hK trivial fun _=>?_
      clear hK K c12
      refine r1 9 rfl (fun K hK=>?_)
      have hb4:Below z3.heap.size z3 (z3.alloc (.cells #[.string fF.bytes,.string fF.text] 93)):=(Below.refl _ _).alloc (Nat.le_refl _) _
      have HS4:=hide (And.intro ((uh HS3).1.below hb4) (And.intro ((uh HS3).2.trans (Fz.of_below hb4)) (one_row z3 fF.text fF.bytes)))
      go_simp
      refine ro hK trivial fun _=>?_
      clear hK K hb4 HS3
      generalize z3.heap.size=N4 at HS4 ⊢
      generalize z3.alloc (.cells #[.string fF.bytes,.string fF.text] 93)=z4 at HS4 ⊢
      refine r1 10 rfl (fun K hK=>?_)
      refine step_append_km _ _ rfl rfl rfl (uh HS4).1.hl (uh HS4).2.2 (by show ((s.ln ++ (F.take i).map frameOfF).take 40).length≤1000000;omega) (by simp) (uh HS4).1.bs ?_
      intro v7 y7 g1 g2 g3
      have nS:some S≠(Value.slice la q9 lc).ownBlock:=fun e=>by
       obtain ⟨_,_,c,h3⟩:=(uh HS4).1.hl.blk S e.symm
       exact typ_ne h3 (uh HS4).1.row (by decide) rfl
      have r7:=(g2.block S (uh HS4).1.lt nS).trans (uh HS4).1.row
      have x7:∃ u,y7.cell? ⟨S,12,none⟩=some u:=⟨_,by rw [cr r7];rfl⟩
      obtain ⟨u7,x7⟩:=x7
      have f7:y7.frozen? ⟨S,12,none⟩=false:=frz r7 _
      have hle:(((lnN s ((s.ln ++ (F.take i).map frameOfF).take 40)).ln) ++ [(⟨fF.text,fF.bytes⟩:Sf)]).length≤40:=by
       rw [List.length_append]
       show ((s.ln ++ (F.take i).map frameOfF).take 40).length+1≤40
       omega
      obtain ⟨h8,h9⟩:=(uh HS4).1.setLine g1 g2 g3 hle
      have H7:Hid (Sk base W S (lnN s ((s.ln ++ (F.take (i+1)).map frameOfF).take 40)) vq vl (.slice (some ⟨g,0,none⟩) n c3) F (y7.setCell ⟨S,12,none⟩ v7)):=hide (by
       have hff:=(uh HS4).2.1.trans h9
       refine ⟨⟨v7,?_,hff⟩,uh hKP _ _ hff⟩
       have e40:=uh HE40
       rw [hq9,if_pos h40] at e40
       rw [← e40]
       exact h8)
      obtain ⟨a7,c7,e7⟩:=g1.form
      obtain ⟨n7,e9⟩:∃ n7,((lnN s ((s.ln ++ (F.take i).map frameOfF).take 40)).ln ++ [(⟨fF.text,fF.bytes⟩:Sf)]).length=n7:=⟨_,rfl⟩
      rw [e9] at e7
      clear e9 g1 g2 g3 nS r7 h8 h9 hle HS4
      subst e7
      refine ro hK trivial fun _=>?_
      clear hK K
      refine t2 11 ?_
      refine t2 12 ?_
      refine r1 13 rfl (fun K hK=>?_)
      go_simp
      refine ro hK trivial fun _=>?_
      clear hK K x7 f7
      refine dn ?_ _
      generalize y7.setCell ⟨S,12,none⟩ (.slice a7 n7 c7)=y8 at H7 ⊢
      go_wp2_with fail
      go_roundw
      case rel=>exact ⟨i+1,by omega,by go_num,uh H7⟩
      case measure=>simp [intOf];omega
     ·have hb4:Below z3.heap.size z3 (z3.alloc (.cells #[.string fF.bytes,.string fF.text] 93)):=(Below.refl _ _).alloc (Nat.le_refl _) _
      have HS4:=hide (And.intro ((uh HS3).1.below hb4) (And.intro ((uh HS3).2.trans (Fz.of_below hb4)) (one_row z3 fF.text fF.bytes)))
      go_simp
      refine ro hK trivial fun _=>?_
      clear hK K hb4 HS3
      generalize z3.heap.size=N4 at HS4 ⊢
      generalize z3.alloc (.cells #[.string fF.bytes,.string fF.text] 93)=z4 at HS4 ⊢
      refine r1 4 rfl (fun K hK=>?_)
      have c12:z4.cell? ⟨S,12,none⟩=some (.slice la q9 lc):=(uh HS4).1.cl.1
      go_simp
      refine ro hK trivial fun _=>?_
      clear hK K c12
      refine r1 10 rfl (fun K hK=>?_)
      refine step_append_km _ _ rfl rfl rfl (uh HS4).1.hl (uh HS4).2.2 (by show ((s.ln ++ (F.take i).map frameOfF).take 40).length≤1000000;omega) (by simp) (uh HS4).1.bs ?_
      intro v7 y7 g1 g2 g3
      have nS:some S≠(Value.slice la q9 lc).ownBlock:=fun e=>by
       obtain ⟨_,_,c,h3⟩:=(uh HS4).1.hl.blk S e.symm
       exact typ_ne h3 (uh HS4).1.row (by decide) rfl
      have r7:=(g2.block S (uh HS4).1.lt nS).trans (uh HS4).1.row
      have x7:∃ u,y7.cell? ⟨S,12,none⟩=some u:=⟨_,by rw [cr r7];rfl⟩
      obtain ⟨u7,x7⟩:=x7
      have f7:y7.frozen? ⟨S,12,none⟩=false:=frz r7 _
      have hle:(((lnN s ((s.ln ++ (F.take i).map frameOfF).take 40)).ln) ++ [(⟨fF.text,fF.bytes⟩:Sf)]).length≤40:=by
       rw [List.length_append]
       show ((s.ln ++ (F.take i).map frameOfF).take 40).length+1≤40
       omega
      obtain ⟨h8,h9⟩:=(uh HS4).1.setLine g1 g2 g3 hle
      have H7:Hid (Sk base W S (lnN s ((s.ln ++ (F.take (i+1)).map frameOfF).take 40)) vq vl (.slice (some ⟨g,0,none⟩) n c3) F (y7.setCell ⟨S,12,none⟩ v7)):=hide (by
       have hff:=(uh HS4).2.1.trans h9
       refine ⟨⟨v7,?_,hff⟩,uh hKP _ _ hff⟩
       have e40:=uh HE40
       rw [hq9,if_pos h40] at e40
       rw [← e40]
       exact h8)
      obtain ⟨a7,c7,e7⟩:=g1.form
      obtain ⟨n7,e9⟩:∃ n7,((lnN s ((s.ln ++ (F.take i).map frameOfF).take 40)).ln ++ [(⟨fF.text,fF.bytes⟩:Sf)]).length=n7:=⟨_,rfl⟩
      rw [e9] at e7
      clear e9 g1 g2 g3 nS r7 h8 h9 hle HS4
      subst e7
      refine ro hK trivial fun _=>?_
      clear hK K
      refine t2 11 ?_
      refine t2 12 ?_
      refine r1 13 rfl (fun K hK=>?_)
      go_simp
      refine ro hK trivial fun _=>?_
      clear hK K x7 f7
      refine dn ?_ _
      generalize y7.setCell ⟨S,12,none⟩ (.slice a7 n7 c7)=y8 at H7 ⊢
      go_wp2_with fail
      go_roundw
      case rel=>exact ⟨i+1,by omega,by go_num,uh H7⟩
      case measure=>simp [intOf];omega
   ·have d2:¬ ((q9:Int)<40):=by omega
    subst hvl
    have HX:=hide (And.intro hsl hf)
    have HT:=hide (take40_full s.ln F i (by rw [hq9];exact h40))
    clear hsl hf hF
    go_wp2_with fail
    refine bodyPost_end (results_none rfl _ _ _) rfl ?_
    refine ⟨rfl,_,?_,(uh HX).2⟩
    have h1:=(uh HX).1
    rw [uh HT] at h1
    exact h1
  ·have e:i=n:=by omega
   subst e
   have d1:¬ ((i:Int)<(i:Int)):=by omega
   obtain ⟨vl',hsl,hf⟩:=hF.sl
   rw [show F.take i=F by rw [← hn];exact List.take_length] at hsl
   have HX:=hide (And.intro hsl hf)
   clear hsl hf hF
   go_wp2_with fail
   refine bodyPost_end (results_none rfl _ _ _) rfl ?_
   exact ⟨rfl,vl',(uh HX).1,(uh HX).2⟩
theorem run_append_sm {W:World} {base b2 N n cp:Nat} {s:Value} {D F:List Sf} (ty:TypeId) (hn:n=D.length) (hc:n≤cp) (hv:W.ownsRow base 93 2 (.slice (some ⟨N,0,none⟩) n cp) n (sfcellsm D)) (hs:HoldsKm W b2 s F) (hD:D.length≤1000) (hF:F.length≤1000) (hbase:base≤W.heap.size) :
  ∃ v' W',(Builtin.append_ #[68,68] ty #[.slice (some ⟨N,0,none⟩) n cp,s]).run Tryz.prog W=.ok v' W'∧HoldsKm W' base v' (D ++ F)∧W.grownBy W' (some N):=by
 obtain ⟨i,hi,hz,hsz,hby⟩:=sfinfom
 subst hn
 rcases hs with ⟨rfl,rfl⟩ | ⟨g,o,cs,cur,rfl,h2,h3,h4,h5,h6⟩
 ·rw [List.append_nil]
  exact ⟨_,_,run_append_no2m ty _ none _ _ 0 hc,HoldsKm.own hv,⟨rfl,rfl,rfl,Nat.le_refl _,fun _ _ _=>rfl⟩⟩
 ·obtain ⟨v',W',h1,r1,r2,_⟩:=run_append_own (P:=Tryz.prog) W base 68 ty 93 i _ 2 32 Tryz.underlying68 hi hz hsz hby rfl (by decide) _ D.length (sfcellsm D) hv ⟨g,o,none⟩ F.length cs (sfcellsm F) (sfcells_lenm F) (fun j u hu=>by
   have hj:j<F.length*2:=by have:=(List.getElem?_eq_some_iff.1 hu).1;rw [sfcells_lenm] at this;exact this
   rw [Addr.add_lit,cell_of_row _ _ _ _ _ _ h2,h6 j hj]
   exact hu) (sfcells_onem F) (by unfold maxLen;omega) (by omega) hbase
  refine ⟨v',W',h1,HoldsKm.own (by rw [List.length_append,sfcells_appendm];exact r1),r2⟩
theorem append_gm {W:World} {ops:Array Oper} {rest:List Oper} {o:Oper} {a:Act} {Q:Exit→Act→World→Prop} (hgd:o.guard=none) (s x:Operand)
  (ho:o.op=.call { callee:=.builtin .append,args:=#[s,x],argTypes:=#[68,68] }) {sv xv:Value} {P:Value→World→Prop} (hs:a.eval s=sv) (hx:a.eval x=xv)
  (hr:∀ ty,∃ v' w',(Builtin.append_ #[68,68] ty #[sv,xv]).run Tryz.prog W=.ok v' w'∧P v' w') (h:∀ v' w',P v' w'→wpList Tryz.prog ops Q rest (a.put o.dst v') w'):wpList Tryz.prog ops Q (o :: rest) a W:=by
 refine wpList_plain hgd fun K hK=>?_
 obtain ⟨v',w',hr,hp⟩:=hr o.type
 unfold Oper.wp execOp
 simp only [ho,resolve,invoke,builtin,Sem.run_bind,Sem.run_pure,Result.andThen_ok,List.map_toArray,List.map_cons,List.map_nil,hs,hx,hr]
 exact hK _ _ (h v' w' hp)
theorem step_append_gm {W:World} {o:Oper} {a:Act} {K:Act→World→Prop} {Q:Exit→Act→World→Prop} (s x:Operand) (ho:o.op=.call { callee:=.builtin .append,args:=#[s,x],argTypes:=#[68,68] })
  {sv xv:Value} {P:Value→World→Prop} (hs:a.eval s=sv) (hx:a.eval x=xv)
  (hr:∀ ty,∃ v' w',(Builtin.append_ #[68,68] ty #[sv,xv]).run Tryz.prog W=.ok v' w'∧P v' w') (h:∀ v' w',P v' w'→K (a.put o.dst v') w'):o.wp Tryz.prog a W K Q:=by
 obtain ⟨v',w',hr,hp⟩:=hr o.type
 unfold Oper.wp execOp
 simp only [ho,resolve,invoke,builtin,Sem.run_bind,Sem.run_pure,Result.andThen_ok,List.map_toArray,List.map_cons,List.map_nil,hs,hx,hr]
 exact h v' w' hp
theorem own_newm (W:World) (D:List Sf) (hD:D.length≤1000):(W.alloc (.cells (sfcellsm D).toArray 93)).ownsRow W.heap.size 93 2 (.slice (some ⟨W.heap.size,0,none⟩) D.length D.length) D.length (sfcellsm D) :=
 ⟨sfcells_lenm D,Or.inr ⟨W.heap.size,D.length,_,rfl,Nat.le_refl _,heap_alloc_new W _,Nat.le_refl _,by unfold maxLen;omega,by rw [List.size_toArray,sfcells_lenm],by rw [List.take_of_length_le (by rw [← List.size_toArray];exact Nat.le_of_eq (by rw [List.size_toArray,sfcells_lenm]))]⟩⟩
theorem HoldsKm.below {W W':World} {base:Nat} {v:Value} {L:List Sf} (h:HoldsKm W base v L) (hb:Below W.heap.size W W'):HoldsKm W' base v L:=h.keep fun g _ hg _ _=>hb.block g (h.blk g hg).2.1
theorem HoldsKm.mono {W:World} {base b:Nat} {v:Value} {L:List Sf} (h:HoldsKm W b v L) (hb:base≤b):HoldsKm W base v L :=
 h.imp id fun ⟨g,o,cp,cur,e,h2,h3,h4⟩=>⟨g,o,cp,cur,e,h2,Nat.le_trans hb h3,h4⟩
theorem grown_below {W W':World} (h:Below W.heap.size W W') (o:Option Nat):W.grownBy W' o:=⟨h.os,h.tape,h.output,h.size,fun k hk _=>h.block k hk⟩
theorem row2L {w:World} {B:Nat} {x0 x1:Value} {T:TypeId} (h:w.heap[B]?=some (.cells #[x0,x1] T)):w.cell? ⟨B,0,none⟩=some x0∧w.cell? ⟨B,1,none⟩=some x1:=⟨by rw [cr h];rfl,by rw [cr h];rfl⟩
set_option maxHeartbeats 4000000 in
set_option maxRecDepth 100000 in
theorem sDrop {base:Nat} {W:World} {S:Nat} {s:Nl} {vq vl:Value} (h:Sm base W S s vq vl) {f:Sf} {r:List Sf} (e:s.ln=f :: r) :
  Calls Tryz.prog 52 #[.pointer (some ⟨S,0,none⟩)] W fun e W'=>e=.returned (.agg #[.string f.bytes,.string f.text])∧∃ vl',Sm base W' S (lnN s r) vq vl'∧Fz (fun k=>k=S) (Kv vl) (Kv vl') W W':=by
 have hk:=h.hl
 rw [e] at hk
 have hle:=h.le
 rw [e,List.length_cons] at hle
 obtain ⟨g,o,cp,hv,x0,x1,_⟩:=hk.first
 obtain ⟨b,hb1,hb2,hs⟩:=slice_km g o r.length cp
 rw [hv] at hk
 obtain ⟨p',P',e2,_,hk'⟩:=hk.tail hb1 hb2
 cases e2
 subst hv
 have c12:=h.cl.1
 have f12:=h.cl.2
 have hSl:=h.lt
 have hgl:=World.block_lt_of_cell? _ _ x0
 obtain ⟨fb,hfb⟩:∃ fb,f.bytes=fb:=⟨_,rfl⟩
 obtain ⟨ft,hft⟩:∃ ft,f.text=ft:=⟨_,rfl⟩
 rw [hfb] at x0 ⊢
 rw [hft] at x1 ⊢
 have hw1:Below W.heap.size W (W.alloc (.cells #[.string ⟨#[]⟩,.string ⟨#[]⟩] 93)):=(Below.refl _ _).alloc (Nat.le_refl _) _
 have hw2:Below W.heap.size W ((W.alloc (.cells #[.string ⟨#[]⟩,.string ⟨#[]⟩] 93)).alloc (.cells #[.string fb,.string ft] 93)):=hw1.alloc (by simp) _
 obtain ⟨hN0,hN1,_,hsW⟩:=new2l W (.cells #[.string ⟨#[]⟩,.string ⟨#[]⟩] 93) (.cells #[.string fb,.string ft] 93)
 have hw3:Below W.heap.size W (((W.alloc (.cells #[.string ⟨#[]⟩,.string ⟨#[]⟩] 93)).alloc (.cells #[.string fb,.string ft] 93)).alloc (.cells #[] 93)):=hw2.alloc (by simp;omega) _
 have HR:Hid (∀ ty,∃ v' w',(Builtin.append_ #[68,68] ty #[.slice (some ⟨W.heap.size+1+1,0,none⟩) 0 0,.slice (some b) r.length cp]).run Tryz.prog (((W.alloc (.cells #[.string ⟨#[]⟩,.string ⟨#[]⟩] 93)).alloc (.cells #[.string fb,.string ft] 93)).alloc (.cells #[] 93))=.ok v' w' ∧
   ((∃ a c,v'=.slice a r.length c)∧(∀ g,Kv v' g→W.heap.size+1<g)∧w'.cell? ⟨S,12,none⟩=some (.slice (some ⟨g,o,none⟩) (r.length+1) (cp+1))∧w'.frozen? ⟨S,12,none⟩=false∧w'.heap[W.heap.size]?=some (.cells #[.string ⟨#[]⟩,.string ⟨#[]⟩] 93)∧w'.heap[W.heap.size+1]?=some (.cells #[.string fb,.string ft] 93)∧Sm base (w'.setCell ⟨S,12,none⟩ v') S (lnN s r) vq v'∧Fz (fun k=>k=S) (Kv (.slice (some ⟨g,o,none⟩) (r.length+1) (cp+1))) (Kv v') W (w'.setCell ⟨S,12,none⟩ v'))):=hide fun ty=>by
  have hn3:=own_newm ((W.alloc (.cells #[.string ⟨#[]⟩,.string ⟨#[]⟩] 93)).alloc (.cells #[.string fb,.string ft] 93)) [] (by simp)
  rw [show ((W.alloc (.cells #[.string ⟨#[]⟩,.string ⟨#[]⟩] 93)).alloc (.cells #[.string fb,.string ft] 93)).heap.size=W.heap.size+1+1 by simp] at hn3
  obtain ⟨v',w',h1,h2,h3⟩:=run_append_sm (base:=W.heap.size+1+1) (D:=[]) (F:=r) ty rfl (Nat.le_refl 0) hn3 (hk'.below hw3) (by simp) (by omega) (by simp)
  have hb9:Below (W.heap.size+1+1) (((W.alloc (.cells #[.string ⟨#[]⟩,.string ⟨#[]⟩] 93)).alloc (.cells #[.string fb,.string ft] 93)).alloc (.cells #[] 93)) w':=⟨h3.os,h3.tape,h3.output,h3.size,fun k hk=>h3.block k (by simp;omega) (fun e=>by cases e;omega)⟩
  have hbw:Below W.heap.size W w':=hw3.trans (hb9.mono (by omega))
  rw [List.nil_append] at h2
  obtain ⟨q1,q2⟩:=h.setLine (h2.mono (Nat.le_trans h.bs (by omega))) (grown_below hbw _) (fun g hg=>Or.inr (by have:=(h2.blk g hg).1;omega)) (by omega)
  have hrS:=(hbw.block S hSl).trans h.row
  refine ⟨v',w',h1,h2.form,fun g hg=>by have:=(h2.blk g hg).1;omega,?_,frz hrS _,?_,?_,q1,q2⟩
  ·rw [cr hrS];rfl
  ·exact (hb9.block W.heap.size (by omega)).trans ((Below.heap_alloc _ _ _ (by simp;omega)).trans hN0)
  ·exact (hb9.block (W.heap.size+1) (by omega)).trans ((Below.heap_alloc _ _ _ (by simp)).trans hN1)
 have c12c:=(hw3.cell (p:=⟨S,12,none⟩) hSl).trans c12
 clear hk hk' hb1 hb2 hw1 hw2 hw3 h hN0 hN1 hsW
 go_enter Tryz.func52,Tryz.ntmps52
 go_wp2_with (refine append_gm rfl _ _ rfl rfl rfl (uh HR) ?_;rintro v' w' ⟨⟨a7,c7,rfl⟩,hkv,c7x,f7x,r0,r1,q1,q2⟩;obtain ⟨y0,y1⟩:=row2L r1;obtain ⟨z0,z1⟩:=row2L r0;have fz0:=frz r0 0;have fz1:=frz r0 1;have nSA:¬ (W.heap.size=S):=(by omega);have nSB:¬ (W.heap.size+1=S):=(by omega);have HQ:=hide (And.intro r0 (And.intro r1 (And.intro q1 (And.intro q2 hkv))));clear r0 r1 q1 q2 hkv HR)
 obtain ⟨r0,r1,q1,q2,hkv⟩:=uh HQ
 generalize hy:w'.setCell ⟨S,12,none⟩ (.slice a7 r.length c7)=y at *
 have rA:y.heap[W.heap.size]?=some (.cells #[.string ⟨#[]⟩,.string ⟨#[]⟩] 93):=by
  rw [← hy,heap_setCell_other _ _ _ _ (by show W.heap.size≠S;omega)]
  exact r0
 obtain ⟨p0,p1⟩:=row2L rA
 have m0:((y.setCell ⟨W.heap.size,0,none⟩ (.string fb)).setCell ⟨W.heap.size,1,none⟩ (.string ft)).cell? ⟨W.heap.size,0,none⟩=some (.string fb):=by
  rw [World.cell?_setCell_other _ _ _ _ (fun e=>by injection e with _ e _;cases e)]
  exact World.cell?_setCell_same _ _ _ p0
 have m1:((y.setCell ⟨W.heap.size,0,none⟩ (.string fb)).setCell ⟨W.heap.size,1,none⟩ (.string ft)).cell? ⟨W.heap.size,1,none⟩=some (.string ft):=by
  have p2:(y.setCell ⟨W.heap.size,0,none⟩ (.string fb)).cell? ⟨W.heap.size,1,none⟩=some (.string ⟨#[]⟩):=by
   rw [World.cell?_setCell_other _ _ _ _ (fun e=>by injection e with _ e _;cases e)]
   exact p1
  exact World.cell?_setCell_same _ _ _ p2
 refine bodyPost_ret (v:=.agg #[.string fb,.string ft]) (by simp [results,Tryz.results52,go_sem,m0,m1]) rfl ⟨rfl,.slice a7 r.length c7,?_,?_⟩
 ·have ot:∀ k,k≠W.heap.size→((y.setCell ⟨W.heap.size,0,none⟩ (.string fb)).setCell ⟨W.heap.size,1,none⟩ (.string ft)).heap[k]?=y.heap[k]?:=fun k hk=>by
   rw [heap_setCell_other _ _ _ _ hk,heap_setCell_other _ _ _ _ hk]
  have hz:=(((Below.refl 0 y).setCell (p:=⟨W.heap.size,0,none⟩) (Nat.zero_le _) (.string fb)).setCell (p:=⟨W.heap.size,1,none⟩) (Nat.zero_le _) (.string ft)).size
  exact q1.keep (ot S (by omega)) hz (fun g cur _ hg=>ot g (typ_ne hg rA (by decide))) (fun g cur hv hg=>ot g (by have:=hkv g hv;omega))
 ·have hz:=(((Below.refl W.heap.size y).setCell (p:=⟨W.heap.size,0,none⟩) (Nat.le_refl _) (.string fb)).setCell (p:=⟨W.heap.size,1,none⟩) (Nat.le_refl _) (.string ft))
  exact ⟨hz.os.trans q2.os,hz.tape.trans q2.tape,hz.output.trans q2.output,Nat.le_trans q2.size hz.size,fun k hk h1 h2=>(hz.block k hk).trans (q2.same k hk h1 h2),q2.own⟩
end Go.Proofs.YtkcghhkkepndnaaGreatDoor
namespace Go.Proofs.YtkcghhkkepndnaaGreatDoor
open Go.RowKit
def E3 (Sa Sb Ww:Nat) (k:Nat):Prop:=k=Sa∨k=Sb∨k=Ww
def K3 (la lb gv:Value) (g:Nat):Prop:=Kv la g∨Kv lb g∨Kv gv g
abbrev wwC (Sa Sb:Nat) (gv:Value) (bad un:Int):Array Value:=#[.pointer (some ⟨Sa,0,none⟩),.pointer (some ⟨Sb,0,none⟩),gv,.int .i64 bad,.int .i64 un]
structure Mlw (base:Nat) (W:World) (Sa Sb Ww:Nat) (m:Nw) (qa la qb lb gv:Value):Prop where
 a:Sm base W Sa m.a qa la
 b:Sm base W Sb m.b qb lb
 w:W.heap[Ww]?=some (.cells (wwC Sa Sb gv m.bad m.un) 72)
 hg:W.ownsRow base 9 1 gv m.b.gt.length (scells m.b.gt)
 ab:Sa≠Sb
 x1:∀ g,Kv la g→¬ Kv lb g
 x2:∀ g,Kv qa g→¬ Kv gv g
 x3:∀ g,Kv qb g→¬ Kv gv g
 bA:base≤Sa
 bB:base≤Sb
 bW:base≤Ww
theorem Sm.gt {base:Nat} {W:World} {S:Nat} {s:Nl} {vq vl:Value} (h:Sm base W S s vq vl) (G:List ByteArray):Sm base W S ⟨s.p,s.Q,s.ln,s.df,G⟩ vq vl:=⟨h.row,h.hq,h.qo,h.hl,h.le,h.bs⟩
section
variable {base:Nat} {W W':World} {Sa Sb Ww:Nat} {m:Nw} {qa la qb lb gv qa' la' qb' lb' gv':Value}
theorem Mlw.setA (h:Mlw base W Sa Sb Ww m qa la qb lb gv) {s':Nl} (hs:Sm base W' Sa s' qa' la') (f:Fz (fun k=>k=Sa) (Kv la) (Kv la') W W') (hq:qa'=qa∨∀ g,Kv qa' g→W.heap.size≤g):Mlw base W' Sa Sb Ww ⟨s',m.b,m.bad,m.un⟩ qa' la' qb lb gv∧Fz (E3 Sa Sb Ww) (K3 la lb gv) (K3 la' lb gv) W W':=by
 have nl:∀ (g:Nat) (cur:Array Value) (T:TypeId),T≠93→W.heap[g]?=some (.cells cur T)→¬ Kv la g:=fun g cur T hT hg e=>by
  obtain ⟨_,_,c,h3⟩:=h.a.hl.blk g e
  exact typ_ne hg h3 hT rfl
 have kt:∀ (g:Nat) (cur:Array Value) (T:TypeId),T≠93→T≠70→W.heap[g]?=some (.cells cur T)→W'.heap[g]?=W.heap[g]?:=fun g cur T h1 h2 hg=>f.same g (Array.getElem?_eq_some_iff.1 hg).1 (typ_ne hg h.a.row h2) (nl g cur T h1 hg)
 have hb:=h.b.keep (W':=W') (f.same Sb h.b.lt (fun e=>h.ab e.symm) (nl Sb _ _ (by decide) h.b.row)) f.size (fun g cur _ hg=>kt g cur _ (by decide) (by decide) hg) (fun g cur hv hg=>f.same g (Array.getElem?_eq_some_iff.1 hg).1 (typ_ne hg h.a.row (by decide)) (fun e=>h.x1 g e hv))
 refine ⟨⟨hs,hb,(kt Ww _ _ (by decide) (by decide) h.w).trans h.w,own_blk h.hg fun g cur _ hg=>kt g cur _ (by decide) (by decide) hg,h.ab,fun g hg e=>?_,fun g hg e=>?_,h.x3,h.bA,h.bB,h.bW⟩,f.os,f.tape,f.output,f.size,fun k hk h1 h2=>f.same k hk (fun e=>h1 (Or.inl e)) (fun e=>h2 (Or.inl e)),fun g hg=>?_⟩
 ·rcases f.own g hg with e1 | e1
  ·exact h.x1 g e1 e
  ·have:=(h.b.hl.blk g e).2.1;omega
 ·rcases hq with e1 | e1
  ·rw [e1] at hg
   exact h.x2 g hg e
  ·have:=e1 g hg
   have:=(own_typ h.hg g e).2.1
   omega
 ·rcases hg with e | e | e
  ·exact (f.own g e).imp Or.inl id
  ·exact Or.inl (Or.inr (Or.inl e))
  ·exact Or.inl (Or.inr (Or.inr e))
theorem Mlw.setB (h:Mlw base W Sa Sb Ww m qa la qb lb gv) {s':Nl} (hs:Sm base W' Sb s' qb' lb') (hgt:s'.gt=m.b.gt) (f:Fz (fun k=>k=Sb) (Kv lb) (Kv lb') W W') (hq:qb'=qb∨∀ g,Kv qb' g→W.heap.size≤g):Mlw base W' Sa Sb Ww ⟨m.a,s',m.bad,m.un⟩ qa la qb' lb' gv∧Fz (E3 Sa Sb Ww) (K3 la lb gv) (K3 la lb' gv) W W':=by
 have nl:∀ (g:Nat) (cur:Array Value) (T:TypeId),T≠93→W.heap[g]?=some (.cells cur T)→¬ Kv lb g:=fun g cur T hT hg e=>by
  obtain ⟨_,_,c,h3⟩:=h.b.hl.blk g e
  exact typ_ne hg h3 hT rfl
 have kt:∀ (g:Nat) (cur:Array Value) (T:TypeId),T≠93→T≠70→W.heap[g]?=some (.cells cur T)→W'.heap[g]?=W.heap[g]?:=fun g cur T h1 h2 hg=>f.same g (Array.getElem?_eq_some_iff.1 hg).1 (typ_ne hg h.b.row h2) (nl g cur T h1 hg)
 have ha:=h.a.keep (W':=W') (f.same Sa h.a.lt h.ab (nl Sa _ _ (by decide) h.a.row)) f.size (fun g cur _ hg=>kt g cur _ (by decide) (by decide) hg) (fun g cur hv hg=>f.same g (Array.getElem?_eq_some_iff.1 hg).1 (typ_ne hg h.b.row (by decide)) (fun e=>h.x1 g hv e))
 refine ⟨⟨ha,hs,(kt Ww _ _ (by decide) (by decide) h.w).trans h.w,?_,h.ab,fun g hg e=>?_,h.x2,fun g hg e=>?_,h.bA,h.bB,h.bW⟩,f.os,f.tape,f.output,f.size,fun k hk h1 h2=>f.same k hk (fun e=>h1 (Or.inr (Or.inl e))) (fun e=>h2 (Or.inr (Or.inl e))),fun g hg=>?_⟩
 ·show W'.ownsRow base 9 1 gv s'.gt.length (scells s'.gt)
  rw [hgt]
  exact own_blk h.hg fun g cur _ hg=>kt g cur _ (by decide) (by decide) hg
 ·rcases f.own g e with e1 | e1
  ·exact h.x1 g hg e1
  ·have:=(h.a.hl.blk g hg).2.1;omega
 ·rcases hq with e1 | e1
  ·rw [e1] at hg
   exact h.x3 g hg e
  ·have:=e1 g hg
   have:=(own_typ h.hg g e).2.1
   omega
 ·rcases hg with e | e | e
  ·exact Or.inl (Or.inl e)
  ·exact (f.own g e).imp (fun e=>Or.inr (Or.inl e)) id
  ·exact Or.inl (Or.inr (Or.inr e))
theorem Mlw.step (h:Mlw base W Sa Sb Ww m qa la qb lb gv) (hb:Below W.heap.size W W'):Mlw base W' Sa Sb Ww m qa la qb lb gv :=
 ⟨h.a.below hb,h.b.below hb,(hb.block Ww (Array.getElem?_eq_some_iff.1 h.w).1).trans h.w,own_blk h.hg fun g _ _ hg=>hb.block g (Array.getElem?_eq_some_iff.1 hg).1,h.ab,h.x1,h.x2,h.x3,h.bA,h.bB,h.bW⟩
theorem Mlw.setW (h:Mlw base W Sa Sb Ww m qa la qb lb gv) {W1:World} (o:Nat) (v:Value) (G:List ByteArray) (bad un:Int) (hg:W1.ownsRow base 9 1 gv' G.length (scells G)) (gr:W.grownBy W1 gv.ownBlock) (ho:∀ g,Kv gv' g→Kv gv g∨W.heap.size≤g)
  (e:(wwC Sa Sb gv m.bad m.un).setIfInBounds o v=wwC Sa Sb gv' bad un):Mlw base (W1.setCell ⟨Ww,o,none⟩ v) Sa Sb Ww ⟨m.a,⟨m.b.p,m.b.Q,m.b.ln,m.b.df,G⟩,bad,un⟩ qa la qb lb gv'∧Fz (E3 Sa Sb Ww) (K3 la lb gv) (K3 la lb gv') W (W1.setCell ⟨Ww,o,none⟩ v):=by
 have kt:∀ (g:Nat) (cur:Array Value) (T:TypeId),T≠9→W.heap[g]?=some (.cells cur T)→W1.heap[g]?=W.heap[g]?:=fun g cur T hT hgg=>gr.block g (Array.getElem?_eq_some_iff.1 hgg).1 fun e=>by
  obtain ⟨_,_,c,h3⟩:=own_typ h.hg g e.symm
  exact typ_ne hgg h3 hT rfl
 have r2:=heap_setCell_same W1 Ww o _ _ v ((kt Ww _ _ (by decide) h.w).trans h.w)
 rw [e] at r2
 have ot:∀ k,k≠Ww→(W1.setCell ⟨Ww,o,none⟩ v).heap[k]?=W1.heap[k]?:=fun k hk=>heap_setCell_other _ _ _ _ hk
 have hz:=((Below.refl 0 W1).setCell (p:=⟨Ww,o,none⟩) (Nat.zero_le _) v)
 have hsz:W.heap.size≤(W1.setCell ⟨Ww,o,none⟩ v).heap.size:=Nat.le_trans gr.size hz.size
 have ks:∀ (g:Nat) (cur:Array Value),¬ Kv gv g→W.heap[g]?=some (.cells cur 9)→(W1.setCell ⟨Ww,o,none⟩ v).heap[g]?=W.heap[g]?:=fun g cur hn hgg=>(ot g (typ_ne hgg h.w (by decide))).trans (gr.block g (Array.getElem?_eq_some_iff.1 hgg).1 fun e=>hn e.symm)
 have kf:∀ (g:Nat) (cur:Array Value) (T:TypeId),T≠9→T≠72→W.heap[g]?=some (.cells cur T)→(W1.setCell ⟨Ww,o,none⟩ v).heap[g]?=W.heap[g]?:=fun g cur T h1 h2 hgg=>(ot g (typ_ne hgg h.w h2)).trans (kt g cur T h1 hgg)
 refine ⟨⟨h.a.keep (kf Sa _ _ (by decide) (by decide) h.a.row) hsz (fun g cur hv hgg=>ks g cur (h.x2 g hv) hgg) (fun g cur _ hgg=>kf g cur _ (by decide) (by decide) hgg),
  (h.b.keep (kf Sb _ _ (by decide) (by decide) h.b.row) hsz (fun g cur hv hgg=>ks g cur (h.x3 g hv) hgg) (fun g cur _ hgg=>kf g cur _ (by decide) (by decide) hgg)).gt G,r2,own_blk hg fun g cur _ hgg=>ot g (typ_ne hgg ((kt Ww _ _ (by decide) h.w).trans h.w) (by decide)),h.ab,h.x1,fun g hgg e=>?_,fun g hgg e=>?_,h.bA,h.bB,h.bW⟩,
  hz.os.trans gr.os,hz.tape.trans gr.tape,hz.output.trans gr.output,hsz,fun k hk h1 h2=>(ot k (fun e=>h1 (Or.inr (Or.inr e)))).trans (gr.block k hk fun e=>h2 (Or.inr (Or.inr e.symm))),fun g hgg=>?_⟩
 ·rcases ho g e with e1 | e1
  ·exact h.x2 g hgg e1
  ·have:=(h.a.qo g hgg).2;omega
 ·rcases ho g e with e1 | e1
  ·exact h.x3 g hgg e1
  ·have:=(h.b.qo g hgg).2;omega
 ·rcases hgg with e | e | e
  ·exact Or.inl (Or.inl e)
  ·exact Or.inl (Or.inr (Or.inl e))
  ·exact (ho g e).imp (fun e=>Or.inr (Or.inr e)) id
theorem Mlw.cells (h:Mlw base W Sa Sb Ww m qa la qb lb gv):W.cell? ⟨Ww,0,none⟩=some (.pointer (some ⟨Sa,0,none⟩))∧W.cell? ⟨Ww,1,none⟩=some (.pointer (some ⟨Sb,0,none⟩))∧W.cell? ⟨Ww,2,none⟩=some gv∧W.cell? ⟨Ww,3,none⟩=some (.int .i64 m.bad)∧W.cell? ⟨Ww,4,none⟩=some (.int .i64 m.un) :=
 ⟨by rw [cr h.w];rfl,by rw [cr h.w];rfl,by rw [cr h.w];rfl,by rw [cr h.w];rfl,by rw [cr h.w];rfl⟩
theorem Mlw.frW (h:Mlw base W Sa Sb Ww m qa la qb lb gv) (o:Nat):W.frozen? ⟨Ww,o,none⟩=false:=frz h.w o
theorem Mlw.setBad (h:Mlw base W Sa Sb Ww m qa la qb lb gv) (v:Int):Mlw base (W.setCell ⟨Ww,3,none⟩ (.int .i64 v)) Sa Sb Ww ⟨m.a,m.b,v,m.un⟩ qa la qb lb gv∧Fz (E3 Sa Sb Ww) (K3 la lb gv) (K3 la lb gv) W (W.setCell ⟨Ww,3,none⟩ (.int .i64 v)) :=
 h.setW 3 (.int .i64 v) m.b.gt v m.un h.hg (grown_below (Below.refl _ _) _) (fun _ e=>Or.inl e) rfl
theorem Mlw.setUn (h:Mlw base W Sa Sb Ww m qa la qb lb gv) (v:Int):Mlw base (W.setCell ⟨Ww,4,none⟩ (.int .i64 v)) Sa Sb Ww ⟨m.a,m.b,m.bad,v⟩ qa la qb lb gv∧Fz (E3 Sa Sb Ww) (K3 la lb gv) (K3 la lb gv) W (W.setCell ⟨Ww,4,none⟩ (.int .i64 v)) :=
 h.setW 4 (.int .i64 v) m.b.gt m.bad v h.hg (grown_below (Below.refl _ _) _) (fun _ e=>Or.inl e) rfl
theorem Mlw.kk (h:Mlw base W Sa Sb Ww m qa la qb lb gv) (g:Nat) (hg:K3 la lb gv g):base≤g∧g<W.heap.size:=by
 rcases hg with e | e | e
 ·exact ⟨(h.a.hl.blk g e).1,(h.a.hl.blk g e).2.1⟩
 ·exact ⟨(h.b.hl.blk g e).1,(h.b.hl.blk g e).2.1⟩
 ·exact ⟨(own_typ h.hg g e).1,(own_typ h.hg g e).2.1⟩
theorem Mlw.stand (h:Mlw base W Sa Sb Ww m qa la qb lb gv) {K':Nat→Prop} (f:Fz (E3 Sa Sb Ww) (K3 la lb gv) K' W W') (g:Nat) (cur:Array Value) (T:TypeId) (t1:T≠93) (t2:T≠70) (t3:T≠72) (t4:T≠9) (hg:W.heap[g]?=some (.cells cur T)):W'.heap[g]?=some (.cells cur T):=by
 refine (f.same g (Array.getElem?_eq_some_iff.1 hg).1 (fun e=>?_) (fun e=>?_)).trans hg
 ·rcases e with e | e | e
  ·exact typ_ne hg h.a.row t2 e
  ·exact typ_ne hg h.b.row t2 e
  ·exact typ_ne hg h.w t3 e
 ·rcases e with e | e | e
  ·obtain ⟨_,_,c,h3⟩:=h.a.hl.blk g e
   exact typ_ne hg h3 t1 rfl
  ·obtain ⟨_,_,c,h3⟩:=h.b.hl.blk g e
   exact typ_ne hg h3 t1 rfl
  ·obtain ⟨_,_,c,h3⟩:=own_typ h.hg g e
   exact typ_ne hg h3 t4 rfl
end
end Go.Proofs.YtkcghhkkepndnaaGreatDoor
namespace Go.Proofs.YtkcghhkkepndnaaGreatDoor
open Go.RowKit
theorem holdsS_news {W:World} {g o:Nat} {cur:Array Value} {F:List ByteArray} (h3:W.heap[g]?=some (.cells cur 9)) (h7:∀ j (hj:j<F.length),cur[o+j]?=some (.string F[j])):∀ j u,(scells F)[j]?=some u→W.cell? ((⟨g,o,none⟩:Addr).add j)=some u:=fun j u hu=>by
 have hj:=(List.getElem?_eq_some_iff.1 hu).1
 rw [scells_len] at hj
 rw [Addr.add_lit,cell_of_row _ _ _ _ _ _ h3,h7 j hj,← hu]
 exact (scells_get F j _ (List.getElem?_eq_getElem hj)).symm
theorem run_append_ha {W:World} {base:Nat} {v s:Value} {G F:List ByteArray} (ty:TypeId) (hown:W.ownsRow base 9 1 v G.length (scells G)) (hs:HoldsS W s F) (hG:G.length≤1048576) (hF:F.length≤1048576) (hbase:base≤W.heap.size) :
  ∃ v' W',(Builtin.append_ #[23,23] ty #[v,s]).run Tryz.prog W=.ok v' W'∧W'.ownsRow base 9 1 v' (G ++ F).length (scells (G ++ F))∧W.grownBy W' v.ownBlock:=by
 obtain ⟨i,hi,hz,hsz,hby⟩:=sinfo
 rcases hs with ⟨ad,cs,rfl,rfl⟩ | ⟨g,o,cap,cur,rfl,h3,h7⟩
 ·refine ⟨v,W,?_,by rw [List.append_nil];exact hown,⟨rfl,rfl,rfl,Nat.le_refl _,fun _ _ _=>rfl⟩⟩
  rcases hown.2 with ⟨rfl,_⟩ | ⟨g,cap,cur,rfl,_,_,hnc,_⟩
  ·cases ad<;>simp [Builtin.append_,run_underlying Tryz.underlying23,sizeOf,typeInfo,hi,Builtin.lenOf,Builtin.firstCells,loadCells,loadCellsFrom]
  ·cases ad<;>simp [Builtin.append_,run_underlying Tryz.underlying23,sizeOf,typeInfo,hi,Builtin.lenOf,Builtin.firstCells,loadCells,loadCellsFrom,hnc,storeCells]
 ·obtain ⟨v',W',h1,h2,h4,_⟩:=run_append_own (P:=Tryz.prog) W base 23 ty 9 i _ 1 16 Tryz.underlying23 hi hz hsz hby rfl (by decide) v G.length (scells G) hown ⟨g,o,none⟩ F.length cap (scells F) (by rw [scells_len];omega) (holdsS_news h3 h7) (scells_one7 F) (by unfold maxLen;omega) (by omega) hbase
  exact ⟨v',W',h1,by rw [List.length_append,scells_append];exact h2,h4⟩
theorem run_append_hb {W:World} {base:Nat} {v s:Value} {G F:List ByteArray} (ty:TypeId) (hown:W.ownsRow base 9 1 v G.length (scells G)) (hs:HoldsS W s F) (hG:G.length≤1048576) (hF:F.length≤1048576) (hbase:base≤W.heap.size) :
  ∃ v' W',(Builtin.append_ #[23,23] ty #[v,s]).run Tryz.prog W=.ok v' W'∧W'.ownsRow base 9 1 v' (G ++ F).length (scells (G ++ F))∧W.grownBy W' v.ownBlock∧∀ m,v'.ownBlock=some m→v.ownBlock=some m∨W.heap.size≤m:=by
 obtain ⟨i,hi,hz,hsz,hby⟩:=sinfo
 obtain ⟨v',W',h1,h2,h3⟩:=run_append_ha (W:=W) ty hown hs hG hF hbase
 refine ⟨v',W',h1,h2,h3,fun m hm=>?_⟩
 rcases hown.2 with ⟨e,e0⟩ | ⟨g,cap,cur,e,_,hc,hnc,hcm,hcs,htk⟩
 ·
  subst e
  obtain ⟨v2,W2,k1,k2,_⟩:=run_append_ha (W:=W) (base:=W.heap.size) (G:=[]) ty (World.ownsRow_nil _ _ _ _) hs (by simp) hF (Nat.le_refl _)
  rw [h1] at k1
  injection k1 with k1 _
  subst k1
  exact Or.inr (World.ownsRow.lt k2 m hm).1
 ·subst e
  rcases hs with ⟨ad,cs,es,ef⟩ | ⟨g2,o2,cap2,cur2,es,s3,s7⟩
  ·subst es ef
   have hrun:(Builtin.append_ #[23,23] ty #[.slice (some ⟨g,0,none⟩) G.length cap,.slice ad 0 cs]).run Tryz.prog W=.ok (.slice (some ⟨g,0,none⟩) G.length cap) W:=by
    cases ad<;>simp [Builtin.append_,run_underlying Tryz.underlying23,sizeOf,typeInfo,hi,Builtin.lenOf,Builtin.firstCells,loadCells,loadCellsFrom,hnc,storeCells]
   rw [h1] at hrun
   injection hrun with hrun _
   subst hrun
   exact Or.inl hm
  ·subst es
   have hnews:=holdsS_news s3 s7
   have holds:∀ j u,(scells G)[j]?=some u→W.cell? ((⟨g,0,none⟩:Addr).add j)=some u:=fun j u hu=>by
    rw [Addr.add_lit,Nat.zero_add,cell_of_row _ _ _ _ _ _ hc,← hu,← htk,List.getElem?_take,Array.getElem?_toList]
    have hj:=(List.getElem?_eq_some_iff.1 hu).1
    rw [scells_len] at hj
    rw [if_pos (by omega)]
   by_cases hr:G.length+F.length≤cap
   ·have hcell:∀ j,j<(scells F).length→(W.cell? ⟨g,0+G.length*i.size+j,none⟩).isSome=true∧W.frozen? ⟨g,0+G.length*i.size+j,none⟩=false:=by
     intro j hj
     rw [scells_len] at hj
     have hlt:0+G.length*1+j<cur.size:=by omega
     rw [hsz,cell_of_row _ _ _ _ _ _ hc,Array.getElem?_eq_getElem hlt]
     exact ⟨rfl,frz hc _⟩
    have hrun:=run_append_room_cells (P:=Tryz.prog) W 23 ty 9 i Tryz.underlying23 hi g 0 G.length cap ⟨g2,o2,none⟩ F.length cap2 (scells F) (by rw [hsz,scells_len];omega) hnews (scells_one7 F) hr (fun j hj=>(hcell j hj).1) (fun j hj=>(hcell j hj).2)
    rw [h1] at hrun
    injection hrun with hrun _
    subst hrun
    exact Or.inl hm
   ·obtain ⟨v2,W2,k1,r1,r2⟩:=run_append_arg_grows (P:=Tryz.prog) W 23 ty 9 i _ 1 16 Tryz.underlying23 hi hz hsz hby rfl (by decide) ⟨g,0,none⟩ G.length cap (scells G) (by rw [scells_len];omega) holds ⟨g2,o2,none⟩ F.length cap2 (scells F) (by rw [scells_len];omega) hnews (by omega) (by unfold maxLen;omega) (by omega)
    rw [h1] at k1
    injection k1 with k1 _
    subst k1
    exact Or.inr (World.ownsRow.lt r1 m hm).1
end Go.Proofs.YtkcghhkkepndnaaGreatDoor
namespace Go.Proofs.YtkcghhkkepndnaaGreatDoor
open Go.RowKit
set_option maxHeartbeats 1000000 in
theorem eqIs (v1 v2:Value) (L:List Int) (w:World) (hn:L.length≤2000000) (h1:HoldsI w v1 L) (h2:HoldsI w v2 L) :
  Calls Tryz.prog 14 #[v1,v2] w fun e w'=>e=.returned (.bool true)∧Below w.heap.size w w':=by
 have HA:Hid (∀ i (hi:i<L.length),(∃ g1,v1.ownBlock=some g1∧(∃ cp,v1=.slice (some ⟨g1,0,none⟩) L.length cp)∧g1<w.heap.size∧w.cell? ⟨g1,i,none⟩=some (.int .i64 L[i]))∧∃ g2,(∃ cp,v2=.slice (some ⟨g2,0,none⟩) L.length cp)∧g2<w.heap.size∧w.cell? ⟨g2,i,none⟩=some (.int .i64 L[i])):=by
  refine hide fun i hi=>⟨?_,?_⟩
  ·rcases h1 with ⟨_,_,_,e⟩ | ⟨g,cp,cur,e,q1,q2,q3⟩
   ·rw [e] at hi;exact absurd hi (Nat.not_lt_zero _)
   ·exact ⟨g,by rw [e];rfl,⟨cp,e⟩,(Array.getElem?_eq_some_iff.1 q1).1,by rw [cell_of_row _ _ _ _ _ _ q1,q3 i hi];exact icells_get L i _ (List.getElem?_eq_getElem hi)⟩
  ·rcases h2 with ⟨_,_,_,e⟩ | ⟨g,cp,cur,e,q1,q2,q3⟩
   ·rw [e] at hi;exact absurd hi (Nat.not_lt_zero _)
   ·exact ⟨g,⟨cp,e⟩,(Array.getElem?_eq_some_iff.1 q1).1,by rw [cell_of_row _ _ _ _ _ _ q1,q3 i hi];exact icells_get L i _ (List.getElem?_eq_getElem hi)⟩
 obtain ⟨a1,c1,rfl⟩:=h1.form
 obtain ⟨a2,c2,rfl⟩:=h2.form
 obtain ⟨n,hL⟩:∃ n,L.length=n:=⟨_,rfl⟩
 rw [hL] at hn ⊢
 clear h1 h2
 go_enter Tryz.func14,Tryz.ntmps14
 go_wp2_with fail
 go_loopw [5] (fun y wr=>∃ (i:Nat),i≤n∧y=.int .i64 i∧Below w.heap.size w wr) (fun y _=>n - (intOf y).toNat)
 case atStart=>exact ⟨0,Nat.zero_le _,rfl,Below.refl _ _⟩
 case round =>
  obtain ⟨i,hi,rfl,hb⟩:=hrel
  by_cases hlt:i<n
  ·have d1:(i:Int)<(n:Int):=by omega
   have d0:(0:Int)≤(i:Int):=by omega
   obtain ⟨⟨g1,_,⟨cp1,e1⟩,hg1,k1⟩,g2,⟨cp2,e2⟩,hg2,k2⟩:=uh HA i (by omega)
   cases e1
   cases e2
   replace k1:=(hb.cell (p:=⟨g1,i,none⟩) hg1).trans k1
   replace k2:=(hb.cell (p:=⟨g2,i,none⟩) hg2).trans k2
   generalize L[i]'(by omega)=t at *
   have HB:=hide hb
   clear hb HA
   go_wp2_with fail
   go_quiet (fail)
   go_wp2_with fail
   go_roundw
   case rel=>exact ⟨i+1,by omega,by go_num,(uh HB).os,(uh HB).tape,(uh HB).output,(uh HB).size,(uh HB).block⟩
   case measure=>simp [intOf];omega
  ·have e:i=n:=by omega
   subst e
   have d1:¬ ((i:Int)<(i:Int)):=by omega
   go_wp2
   go_ret
   exact ⟨rfl,hb⟩
def mil (k n:Nat):List Int:=(List.range n).map fun (i:Nat)=>((k+i:Nat):Int)
theorem mil_len (k n:Nat):(mil k n).length=n:=by simp [mil]
theorem mil_get (k n i K:Nat) (h:i<n) (hK:k+i=K):(icells (mil k n))[i]?=some (.int .i64 (K:Int)):=by
 subst hK
 exact icells_get _ i _ (by simp [mil,h])
theorem set_onei (cur':Array Value) (L:List Value) (i:Nat) (A:Value) (hi:i<cur'.size) (h1:L[i]?=some A) (ha:∀ j,j<i→cur'[j]?=L[j]?):∀ j,j<i+1→(cur'.setIfInBounds i A)[j]?=L[j]?:=by
 intro j hj
 rw [Array.getElem?_setIfInBounds]
 by_cases e1:i=j
 ·rw [if_pos e1,if_pos hi,← e1,h1]
 ·rw [if_neg e1]
  exact ha j (by omega)
set_option maxHeartbeats 2000000 in
theorem markIs (g cap n k:Nat) (cur:Array Value) (w:World) (hk:0<k) (hn:k+n<9000000) (hc:n≤cur.size) (hg:w.heap[g]?=some (.cells cur 2)) :
  Calls Tryz.prog 16 #[.slice (some ⟨g,0,none⟩) n cap,.int .i64 k] w fun e w'=>e=.returned (.int .i64 ((k+n:Nat):Int)) ∧
   (∃ cur',w'.heap[g]?=some (.cells cur' 2)∧cur'.size=cur.size∧∀ j,j<n→cur'[j]?=(icells (mil k n))[j]?)∧Nr g w w':=by
 have hgl:g<w.heap.size:=(Array.getElem?_eq_some_iff.1 hg).1
 go_enter Tryz.func16,Tryz.ntmps16
 go_wp2_with fail
 go_loopw [1,5] (fun x y wr=>∃ (i:Nat),i≤n∧y=.int .i64 i∧x=.int .i64 ((k+i:Nat):Int)∧(∃ cur',wr.heap[g]?=some (.cells cur' 2)∧cur'.size=cur.size∧∀ j,j<i→cur'[j]?=(icells (mil k n))[j]?)∧Nr g w wr) (fun _ y _=>n - (intOf y).toNat)
 case atStart=>exact ⟨0,Nat.zero_le _,rfl,rfl,⟨cur,hg,rfl,fun j hj=>by omega⟩,Nr.refl _ _⟩
 case round =>
  obtain ⟨i,hi,rfl,rfl,⟨cur',hg',hs',ha'⟩,hnr⟩:=hrel
  by_cases hlt:i<n
  ·have d1:(i:Int)<(n:Int):=by omega
   have hgl':g<wr.heap.size:=Nat.lt_of_lt_of_le hgl hnr.size
   obtain ⟨K,hK⟩:∃ K:Nat,k+i=K:=⟨_,rfl⟩
   rw [hK]
   have HMg:=hide (mil_get k n i K hlt hK)
   have HKe:Hid ((K:Int)+1=((k+(i+1):Nat):Int)):=hide (by omega)
   have hK9:K<9000000:=by omega
   have HI:Hid (i<cur'.size):=hide (by omega)
   have HA:=hide ha'
   have HN:=hide hnr
   obtain ⟨y1,hy1⟩:∃ y,wr.cell? ⟨g,i,none⟩=some y:=⟨cur'[i]'(uh HI),by rw [cell_of_row _ _ _ _ _ _ hg',Array.getElem?_eq_getElem (uh HI)]⟩
   have hf1:wr.frozen? ⟨g,i,none⟩=false:=frz hg' _
   have HG2:=hide hg'
   clear ha' hnr hg' hK
   go_wp2_with fail
   go_roundw
   case rel =>
    refine ⟨i+1,by omega,by go_num,by rw [uh HKe],⟨_,heap_setCell_same _ _ i _ _ _ (uh HG2),by simp [hs'],?_⟩,(uh HN).setCell i _⟩
    exact set_onei cur' _ i _ (uh HI) (uh HMg) (uh HA)
   case measure=>simp [intOf];omega
  ·have e:i=n:=by omega
   subst e
   have d1:¬ ((i:Int)<(i:Int)):=by omega
   go_wp2
   go_ret
   exact ⟨rfl,⟨cur',hg',hs',ha'⟩,hnr⟩
set_option maxHeartbeats 1000000 in
theorem markI0 (ad:Option Addr) (cp k:Nat) (w:World):Calls Tryz.prog 16 #[.slice ad 0 cp,.int .i64 k] w fun e w'=>e=.returned (.int .i64 k)∧w'=w:=by
 go_enter Tryz.func16,Tryz.ntmps16
 go_wp2_with fail
 go_loopw [1,5] (fun x y wr=>x=.int .i64 k∧y=.int .i64 0∧wr=w) (fun _ _ _=>0)
 case atStart=>exact ⟨rfl,rfl,rfl⟩
 case round =>
  obtain ⟨rfl,rfl,rfl⟩:=hrel
  go_wp2
  go_ret
  exact ⟨rfl,rfl⟩
theorem markIF (v:Value) (L:List Int) (k:Nat) (w:World) (hk:0<k) (hL:k+L.length<9000000) (h:HoldsI w v L) :
  Calls Tryz.prog 16 #[v,.int .i64 k] w fun e w'=>e=.returned (.int .i64 ((k+L.length:Nat):Int))∧HoldsI w' v (mil k L.length)∧But v.ownBlock w w'∧(L=[]→Below w.heap.size w w'):=by
 by_cases hLe:L=[]
 ·subst hLe
  obtain ⟨ad,cp,rfl⟩:=h.form
  exact (markI0 ad cp k w).mono fun e w' ⟨p1,p2⟩=>⟨p1,Or.inl ⟨ad,cp,rfl,rfl⟩,p2 ▸ But.of_below (Below.refl _ _),fun _=>p2 ▸ Below.refl _ _⟩
 ·rcases h with ⟨ad,cp,rfl,e0⟩ | ⟨g,cp,cur,rfl,h2,h3,h4⟩
  ·exact absurd e0 hLe
  ·refine (markIs g cp L.length k cur w hk hL h3 h2).mono fun e w' ⟨p1,⟨cur',q1,q2,q3⟩,p3⟩=>⟨p1,Or.inr ⟨g,cp,cur',by rw [mil_len],q1,by rw [mil_len];omega,by rw [mil_len];exact q3⟩,⟨p3.os,p3.tape,p3.output,p3.size,fun b hb hne=>p3.block b hb fun e=>hne (by rw [e];rfl)⟩,fun h=>absurd h hLe⟩
theorem holdsI_but {u v:Value} {L:List Int} {W W':World} (h:HoldsI W v L) (hb:But u.ownBlock W W') (n:∀ g,v.ownBlock=some g→u.ownBlock≠some g):HoldsI W' v L :=
 h.imp id fun ⟨g,cp,cur,e1,e2,e3⟩=>⟨g,cp,cur,e1,(hb.block g (Array.getElem?_eq_some_iff.1 e2).1 (n g (by rw [e1];rfl))).trans e2,e3⟩
end Go.Proofs.YtkcghhkkepndnaaGreatDoor
