/- The program's LapbPut; what lay in memory stands. -/
import Derived.Test.YtkcghhkkepndnaaGreatDoorS11
import Derived.Test.YtkcghhkkepndnaaGreatDoorShW
namespace Go.Proofs.YtkcghhkkepndnaaGreatDoor
open Go.RowKit
def putLF (p:Lp) (L:List ByteArray) (t:ByteArray):LO:=if 8000<t.size then loErr 2 else if lpOk p L=true∧t.size≤200 then (if L.length=20 then loErr 7 else ⟨p,L ++ [t],[],[],0⟩) else loErr 1
set_option maxHeartbeats 16000000 in
set_option linter.unusedSimpArgs false in
theorem iPutL (p:Lp) (x:Option Addr) (y:Nat) (L:List ByteArray) (t:ByteArray) (w:World) (hl:L.length≤1048576) (ht:t.size≤1048576) (h:HoldsS w (.slice x L.length y) L) :
  Calls Tryz.prog 39 #[.agg (lpC p (.slice x L.length y)),.string t] w fun e q=>AnsL w (putLF p L t) e q:=by
 have C1:=hide fun W (hb:Below w.heap.size w W)=>iLpRight p x y L W hl (h.below hb)
 obtain ⟨hN0,hN1,hbW,hsW⟩:=new2l w (.cells (lpC p (.slice x L.length y)) 54) (.cells #[.int .i64 0,.int .i64 0,.int .i64 0,.int .i64 0,.slice none 0 0,.bool false,.slice none 0 0,.slice none 0 0,.int .i64 0] 79)
 have HS:=hide h
 unfold putLF
 clear h
 by_cases h8:8000<t.size
 ·rw [if_pos h8]
  have d8:(8000:Int)<(t.size:Int):=by omega
  obtain ⟨wi,vs,va,vr,ak⟩:=p
  unfold lpC at hN0 hN1 hbW hsW ⊢
  dsimp only at *
  clear hN0 hN1 hbW hsW HS C1
  generalize L.length=n at *
  go_enter Tryz.func39,Tryz.ntmps39
  go_wp2
  refine bodyPost_ret (v:=.agg (loC lpZero (.slice none 0 0) (.slice none 0 0) (.slice none 0 0) 2)) (by simp [results,Tryz.results39,go_sem,loC,lpZero]) rfl ?_
  exact ⟨.slice none 0 0,.slice none 0 0,.slice none 0 0,rfl,World.ownsRow_nil _ _ _ _,World.ownsRow_nil _ _ _ _,World.ownsRow_nil _ _ _ _,(fun g hg=>by cases hg),((Below.refl _ _).alloc (Nat.le_refl _) _).alloc (by simp) _⟩
 rw [if_neg h8]
 have d8:¬ ((8000:Int)<(t.size:Int)):=by omega
 cases hk:lpOk p L
 ·rw [if_neg (by simp)]
  rw [hk] at C1
  clear HS hk
  generalize L.length=n at *
  obtain ⟨wi,vs,va,vr,ak⟩:=p
  unfold lpC at hN0 hN1 hbW hsW C1 ⊢
  dsimp only at *
  have H0:=hide (And.intro hN0 (And.intro hN1 (And.intro hbW hsW)))
  clear hN0 hN1 hbW hsW
  go_enter Tryz.func39,Tryz.ntmps39
  go_wp2_with fail
  refine (uh C1 _ (uh H0).2.2.1).mono ?_
  rintro e w1 ⟨rfl,hb1⟩
  have k00:=(hb1.block w.heap.size (Array.getElem?_eq_some_iff.1 (uh H0).1).1).trans (uh H0).1
  have k0:=(hb1.block (w.heap.size+1) (Array.getElem?_eq_some_iff.1 (uh H0).2.1).1).trans (uh H0).2.1
  have hB1:=(uh H0).2.2.1.trans (hb1.mono (uh H0).2.2.1.size)
  have hs1:w.heap.size+2≤w1.heap.size:=by have:=hb1.size;rw [(uh H0).2.2.2] at this;exact this
  obtain ⟨b0,b1,b2,b3,b4,b5⟩:=row6l k00
  obtain ⟨r0,r1,r2,r3,r4,r5,r6,r7,r8⟩:=row9l k0
  obtain ⟨f0,f1,f2,f3,f4,f5,f6,f7,f8⟩:=frz9l k0
  have HX:=hide (And.intro k0 (And.intro hB1 hs1))
  clear k00 k0 hB1 hb1 H0 C1 hs1
  go_wp2
  obtain ⟨k0,hB1,_⟩:=uh HX
  refine bodyPost_ret (v:=.agg (loC lpZero (.slice none 0 0) (.slice none 0 0) (.slice none 0 0) 1)) (by simp [results,Tryz.results39,asAddr,loC,lpZero,loadLo (set9_lo k0 _ _ _ _ _ _ _ _ _)]) rfl ?_
  exact ⟨.slice none 0 0,.slice none 0 0,.slice none 0 0,rfl,World.ownsRow_nil _ _ _ _,World.ownsRow_nil _ _ _ _,World.ownsRow_nil _ _ _ _,(fun g hg=>by cases hg),set9_bl hB1 (by omega) _ _ _ _ _ _ _ _ _⟩
 rw [hk] at C1
 by_cases h2:¬ t.size≤200
 ·rw [if_neg (fun e=>h2 e.2)]
  have d2:(200:Int)<(t.size:Int):=by omega
  clear HS hk
  generalize L.length=n at *
  obtain ⟨wi,vs,va,vr,ak⟩:=p
  unfold lpC at hN0 hN1 hbW hsW C1 ⊢
  dsimp only at *
  have H0:=hide (And.intro hN0 (And.intro hN1 (And.intro hbW hsW)))
  clear hN0 hN1 hbW hsW
  go_enter Tryz.func39,Tryz.ntmps39
  go_wp2_with fail
  refine (uh C1 _ (uh H0).2.2.1).mono ?_
  rintro e w1 ⟨rfl,hb1⟩
  have k00:=(hb1.block w.heap.size (Array.getElem?_eq_some_iff.1 (uh H0).1).1).trans (uh H0).1
  have k0:=(hb1.block (w.heap.size+1) (Array.getElem?_eq_some_iff.1 (uh H0).2.1).1).trans (uh H0).2.1
  have hB1:=(uh H0).2.2.1.trans (hb1.mono (uh H0).2.2.1.size)
  have hs1:w.heap.size+2≤w1.heap.size:=by have:=hb1.size;rw [(uh H0).2.2.2] at this;exact this
  obtain ⟨b0,b1,b2,b3,b4,b5⟩:=row6l k00
  obtain ⟨r0,r1,r2,r3,r4,r5,r6,r7,r8⟩:=row9l k0
  obtain ⟨f0,f1,f2,f3,f4,f5,f6,f7,f8⟩:=frz9l k0
  have HX:=hide (And.intro k0 (And.intro hB1 hs1))
  clear k00 k0 hB1 hb1 H0 C1 hs1
  go_wp2
  obtain ⟨k0,hB1,_⟩:=uh HX
  refine bodyPost_ret (v:=.agg (loC lpZero (.slice none 0 0) (.slice none 0 0) (.slice none 0 0) 1)) (by simp [results,Tryz.results39,asAddr,loC,lpZero,loadLo (set9_lo k0 _ _ _ _ _ _ _ _ _)]) rfl ?_
  exact ⟨.slice none 0 0,.slice none 0 0,.slice none 0 0,rfl,World.ownsRow_nil _ _ _ _,World.ownsRow_nil _ _ _ _,World.ownsRow_nil _ _ _ _,(fun g hg=>by cases hg),set9_bl hB1 (by omega) _ _ _ _ _ _ _ _ _⟩
 replace h2:t.size≤200:=by omega
 rw [if_pos ⟨rfl,h2⟩]
 have d2:¬ ((200:Int)<(t.size:Int)):=by omega
 by_cases h20:L.length=20
 ·rw [if_pos h20]
  clear HS hk
  rw [h20] at hN0 hN1 hbW hsW C1 ⊢
  obtain ⟨wi,vs,va,vr,ak⟩:=p
  unfold lpC at hN0 hN1 hbW hsW C1 ⊢
  dsimp only at *
  have H0:=hide (And.intro hN0 (And.intro hN1 (And.intro hbW hsW)))
  clear hN0 hN1 hbW hsW
  go_enter Tryz.func39,Tryz.ntmps39
  go_wp2_with fail
  refine (uh C1 _ (uh H0).2.2.1).mono ?_
  rintro e w1 ⟨rfl,hb1⟩
  have k00:=(hb1.block w.heap.size (Array.getElem?_eq_some_iff.1 (uh H0).1).1).trans (uh H0).1
  have k0:=(hb1.block (w.heap.size+1) (Array.getElem?_eq_some_iff.1 (uh H0).2.1).1).trans (uh H0).2.1
  have hB1:=(uh H0).2.2.1.trans (hb1.mono (uh H0).2.2.1.size)
  have hs1:w.heap.size+2≤w1.heap.size:=by have:=hb1.size;rw [(uh H0).2.2.2] at this;exact this
  obtain ⟨b0,b1,b2,b3,b4,b5⟩:=row6l k00
  obtain ⟨r0,r1,r2,r3,r4,r5,r6,r7,r8⟩:=row9l k0
  obtain ⟨f0,f1,f2,f3,f4,f5,f6,f7,f8⟩:=frz9l k0
  have HX:=hide (And.intro k0 (And.intro hB1 hs1))
  clear k00 k0 hB1 hb1 H0 C1 hs1
  go_wp2
  obtain ⟨k0,hB1,_⟩:=uh HX
  refine bodyPost_ret (v:=.agg (loC lpZero (.slice none 0 0) (.slice none 0 0) (.slice none 0 0) 7)) (by simp [results,Tryz.results39,asAddr,loC,lpZero,loadLo (set9_lo k0 _ _ _ _ _ _ _ _ _)]) rfl ?_
  exact ⟨.slice none 0 0,.slice none 0 0,.slice none 0 0,rfl,World.ownsRow_nil _ _ _ _,World.ownsRow_nil _ _ _ _,World.ownsRow_nil _ _ _ _,(fun g hg=>by cases hg),set9_bl hB1 (by omega) _ _ _ _ _ _ _ _ _⟩
 rw [if_neg h20]
 have d20:((L.length:Int) == 20)=false:=beq_eq_false_iff_ne.2 (by omega)
 have hr:=lpRt hk
 have hS7:sentN p≤7:=by have:=sentN_eq (p:=p);have:=(far_lt p.vs p.va).2;omega
 have C2:=hide fun W (hb:Below w.heap.size w W)=>iWorkOn p x y L W hr ((uh HS).below hb)
 have CC:=hide fun v=>cloneS t v (by omega)
 obtain ⟨k,ek⟩:∃ k,sentN p=k:=⟨_,rfl⟩
 rw [ek] at C2 hS7
 have HR:=hide hr
 clear HS hk
 have CO:=hide (fun W1 B M vq q (hL:Lw W1 B M p (L.take k) (L.drop k ++ [t]) [] [] vq (.slice none 0 0) (.slice none 0 0) q)=>iOutL hL hr.va (by rw [List.length_take];omega) (by rw [List.length_append,List.length_drop];have:=hr.l20;show _+1≤100;omega))
 have hlq:(L.drop k).length≤1000:=by rw [List.length_drop];have:=hr.l20;omega
 obtain ⟨pp,hpp⟩:∃ pp,p=pp:=⟨_,rfl⟩
 clear hr
 obtain ⟨wi,vs,va,vr,ak⟩:=p
 unfold lpC at hN0 hN1 hbW hsW C1 C2 ⊢
 dsimp only at *
 have H0:=hide (And.intro hN0 (And.intro hN1 (And.intro hbW hsW)))
 clear hN0 hN1 hbW hsW
 generalize hn:L.length=n at *
 go_enter Tryz.func39,Tryz.ntmps39
 go_wp2_with fail
 refine (uh C1 _ (uh H0).2.2.1).mono ?_
 rintro e w1 ⟨rfl,hb1⟩
 have k00:=(hb1.block w.heap.size (Array.getElem?_eq_some_iff.1 (uh H0).1).1).trans (uh H0).1
 have k0:=(hb1.block (w.heap.size+1) (Array.getElem?_eq_some_iff.1 (uh H0).2.1).1).trans (uh H0).2.1
 have hB1:=(uh H0).2.2.1.trans (hb1.mono (uh H0).2.2.1.size)
 have hs1:w.heap.size+2≤w1.heap.size:=by have:=hb1.size;rw [(uh H0).2.2.2] at this;exact this
 obtain ⟨b0,b1,b2,b3,b4,b5⟩:=row6l k00
 obtain ⟨r0,r1,r2,r3,r4,r5,r6,r7,r8⟩:=row9l k0
 obtain ⟨f0,f1,f2,f3,f4,f5,f6,f7,f8⟩:=frz9l k0
 have HX:=hide (And.intro k0 (And.intro hB1 hs1))
 clear k00 k0 hB1 hb1 H0 C1 hs1
 go_wp2_with fail
 refine (uh C2 _ (uh HX).2.1).mono ?_
 rintro e q0 ⟨rfl,vq,hL0⟩
 obtain ⟨qa,qc,rfl⟩:=hL0.hq.form
 generalize hB:w1.heap.size+1+1=B at *
 generalize hM:w1.heap.size+1=M at *
 have HL0:=hide hL0
 clear hL0 C2 b0 b1 b2 b3 b4 b5
 go_upto_region 8 with fail
 refine gen_world (fun q=>Lw w1 B M ⟨wi,vs,va,vr,ak⟩ (L.take k) (L.drop k) [] [] (.slice qa (L.drop k).length qc) (.slice none 0 0) (.slice none 0 0) q) ?_ ?_
 ·exact uh HL0
 clear HL0 r0 r1 r2 r3 r4 r5 r6 r7 r8 f0 f1 f2 f3 f4 f5 f6 f7 f8
 rintro z hz
 generalize hnq:(L.drop k).length=nq at *
 have c4:=(row9l hz.drew.row).2.2.2.2.1
 have HNQ:Hid (∀ g,(Value.slice qa nq qc).ownBlock=some g→g≠B):=hide fun g hg e=>by
  rcases hz.hq with ⟨e1,_⟩ | ⟨g',o',cp,cur,e1,e3,_⟩
  ·rw [hnq] at *
   rw [e1] at hg;cases hg
  ·rw [e1] at hg
   have e':g'=g:=Option.some.inj hg
   rw [e',e,hz.row] at e3
   cases e3
 have HZ:=hide hz.drew
 clear hz
 subst hpp
 go_cut [26] (fun _ wx=>∃ vq',Lw w1 B M ⟨wi,vs,va,vr,ak⟩ (L.take k) (L.drop k ++ [t]) [] [] vq' (.slice none 0 0) (.slice none 0 0) wx)
 case first =>
  refine wp_region_held_drew (S:=fun _=>True) (by kernel_rfl) trivial (fun hHeld=>?_)
  refine tk 0 (v:=?vt0) rfl ?hyt0 ?_
  case hyt0=>intro w hSw;(try dsimp only at hSw);go_simp;try with_reducible rfl
  try simp only [Act.put,sA,sZ,sS,gA,gZ]
  refine tk 1 (v:=?vt1) rfl ?hyt1 ?_
  case hyt1=>intro w hSw;(try dsimp only at hSw);go_simp;try with_reducible rfl
  try simp only [Act.put,sA,sZ,sS,gA,gZ,gS]
  refine tk 2 (v:=?vt2) rfl ?hyt2 ?_
  case hyt2=>intro w hSw;(try dsimp only at hSw);go_simp;try with_reducible rfl
  try simp only [Act.put,sA,sZ,sS,gA,gZ,gS]
  refine tk 3 (v:=?vt3) rfl ?hyt3 ?_
  case hyt3=>intro w hSw;(try dsimp only at hSw);go_simp;try with_reducible rfl
  try simp only [Act.put,sA,sZ,sS,gA,gZ,gS]
  refine tk 4 (v:=?vt4) rfl ?hyt4 ?_
  case hyt4=>intro w hSw;(try dsimp only at hSw);go_simp;try with_reducible rfl
  try simp only [Act.put,sA,sZ,sS,gA,gZ,gS]
  refine tk 6 (v:=?vt6) rfl ?hyt6 ?_
  case hyt6=>intro w hSw;(try dsimp only at hSw);go_simp;try with_reducible rfl
  try simp only [Act.put,sA,sZ,sS,gA,gZ,gS]
  refine wpAnyH_ready (rs:=[5,7]) (by kernel_rfl) (by simp) ?_
  refine AllReadyH.cons rfl (fun K hK=>?_) (AllReadyH.cons rfl (fun K hK=>?_) (AllReadyH.nil))
  ·go_simp
   refine hK.out _ _ trivial (fun _=>?_)
   clear hK K
   try simp only [Act.put,sA,sZ,sS,gA,gZ,gS]
   refine r1 7 rfl (fun K hK=>?_)
   go_simp
   refine (uh CC _).mono ?_
   rintro e z1 ⟨rfl,hb1⟩
   have hl1:=(uh HZ).step hb1
   have d4:=(row9l hl1.row).2.2.2.2.1
   have hBl:B<z1.heap.size:=(Array.getElem?_eq_some_iff.1 hl1.row).1
   have hBn:¬ (B=z1.heap.size):=by omega
   have hbA:Below z1.heap.size z1 (z1.alloc (.cells #[.string t] 9)):=(Below.refl _ _).alloc (Nat.le_refl _) _
   have hcA:(z1.alloc (.cells #[.string t] 9)).cell? ⟨z1.heap.size,0,none⟩=some (.string t):=by rw [cell_of_row _ _ _ _ _ _ (heap_alloc_new z1 _)];rfl
   have HZ1:=hide (And.intro (hl1.step hbA) hcA)
   clear hb1 hl1 hbA hcA
   go_wp2_with fail
   refine hK.out _ _ trivial (fun _=>?_)
   clear hK K
   try simp only [Act.put,sA,sZ,sS,gA,gZ,gS]
   refine r1 8 rfl (fun K hK=>?_)
   go_simp
   refine hK.out _ _ trivial (fun _=>?_)
   clear hK K
   try simp only [Act.put,sA,sZ,sS,gA,gZ,gS]
   refine r1 9 rfl (fun K hK=>?_)
   refine step_append_q (z1.alloc (.cells #[.string t] 9)) (by rfl) _ _ (by rfl) w1.heap.size (.slice qa nq qc) (L.drop k) t z1.heap.size (by rfl) (by rfl) (uh HZ1).1.hq (uh HZ1).2 (by omega) (uh HZ1).1.lo.size ?_
   rintro v4 z2 hq4 hg4
   obtain ⟨a4,c4',rfl⟩:=hq4.form
   have hB2:z2.heap[B]?=some (.cells (lwC ⟨wi,vs,va,vr,ak⟩ M (.slice qa nq qc) (.slice none 0 0) (.slice none 0 0)) 104):=(hg4.block B (Array.getElem?_eq_some_iff.1 (uh HZ1).1.row).1 (fun e=>uh HNQ B e.symm rfl)).trans (uh HZ1).1.row
   have g4:z2.cell? ⟨B,4,none⟩=some (.slice qa nq qc):=(row9l hB2).2.2.2.2.1
   have f4:z2.frozen? ⟨B,4,none⟩=false:=frz hB2 4
   have HF:=hide ((uh HZ1).1.putQ hg4 hq4)
   clear hB2 hq4 hg4
   generalize (L.drop k ++ [t]).length=nl at *
   refine hK.out _ _ trivial (fun _=>?_)
   clear hK K
   try simp only [Act.put,sA,sZ,sS,gA,gZ,gS]
   refine tk 10 (v:=?vu110) rfl ?hyu110 ?_
   case hyu110=>intro w hSw;(try dsimp only at hSw);go_simp;try with_reducible rfl
   try simp only [Act.put,sA,sZ,sS,gA,gZ,gS]
   refine tk 11 (v:=?vu111) rfl ?hyu111 ?_
   case hyu111=>intro w hSw;(try dsimp only at hSw);go_simp;try with_reducible rfl
   try simp only [Act.put,sA,sZ,sS,gA,gZ,gS]
   refine tk 12 (v:=?vu112) rfl ?hyu112 ?_
   case hyu112=>intro w hSw;(try dsimp only at hSw);go_simp;try with_reducible rfl
   try simp only [Act.put,sA,sZ,sS,gA,gZ,gS]
   refine r1 13 rfl (fun K hK=>?_)
   go_simp
   refine hK.out _ _ trivial (fun _=>?_)
   clear hK K
   try simp only [Act.put,List.getElem_toArray,List.getElem_cons_zero,List.getElem_cons_succ]
   refine wpAnyH_done (by kernel_rfl) ?_ _
   go_wp2_with fail
   go_meet
   exact ⟨_,uh HF⟩
  ·go_simp
   refine (uh CC _).mono ?_
   rintro e z1 ⟨rfl,hb1⟩
   have hl1:=(uh HZ).step hb1
   have d4:=(row9l hl1.row).2.2.2.2.1
   have hBl:B<z1.heap.size:=(Array.getElem?_eq_some_iff.1 hl1.row).1
   have hBn:¬ (B=z1.heap.size):=by omega
   have hbA:Below z1.heap.size z1 (z1.alloc (.cells #[.string t] 9)):=(Below.refl _ _).alloc (Nat.le_refl _) _
   have hcA:(z1.alloc (.cells #[.string t] 9)).cell? ⟨z1.heap.size,0,none⟩=some (.string t):=by rw [cell_of_row _ _ _ _ _ _ (heap_alloc_new z1 _)];rfl
   have HZ1:=hide (And.intro (hl1.step hbA) hcA)
   clear hb1 hl1 hbA hcA
   go_wp2_with fail
   refine hK.out _ _ trivial (fun _=>?_)
   clear hK K
   try simp only [Act.put,sA,sZ,sS,gA,gZ,gS]
   refine wpAnyH_ready (rs:=[5,8]) (by kernel_rfl) (by simp) ?_
   refine AllReadyH.cons rfl (fun K hK=>?_) (AllReadyH.cons rfl (fun K hK=>?_) (AllReadyH.nil))
   ·go_simp
    refine hK.out _ _ trivial (fun _=>?_)
    clear hK K
    try simp only [Act.put,sA,sZ,sS,gA,gZ,gS]
    refine r1 8 rfl (fun K hK=>?_)
    go_simp
    refine hK.out _ _ trivial (fun _=>?_)
    clear hK K
    try simp only [Act.put,sA,sZ,sS,gA,gZ,gS]
    refine r1 9 rfl (fun K hK=>?_)
    refine step_append_q (z1.alloc (.cells #[.string t] 9)) (by rfl) _ _ (by rfl) w1.heap.size (.slice qa nq qc) (L.drop k) t z1.heap.size (by rfl) (by rfl) (uh HZ1).1.hq (uh HZ1).2 (by omega) (uh HZ1).1.lo.size ?_
    rintro v4 z2 hq4 hg4
    obtain ⟨a4,c4',rfl⟩:=hq4.form
    have hB2:z2.heap[B]?=some (.cells (lwC ⟨wi,vs,va,vr,ak⟩ M (.slice qa nq qc) (.slice none 0 0) (.slice none 0 0)) 104):=(hg4.block B (Array.getElem?_eq_some_iff.1 (uh HZ1).1.row).1 (fun e=>uh HNQ B e.symm rfl)).trans (uh HZ1).1.row
    have g4:z2.cell? ⟨B,4,none⟩=some (.slice qa nq qc):=(row9l hB2).2.2.2.2.1
    have f4:z2.frozen? ⟨B,4,none⟩=false:=frz hB2 4
    have HF:=hide ((uh HZ1).1.putQ hg4 hq4)
    clear hB2 hq4 hg4
    generalize (L.drop k ++ [t]).length=nl at *
    refine hK.out _ _ trivial (fun _=>?_)
    clear hK K
    try simp only [Act.put,sA,sZ,sS,gA,gZ,gS]
    refine tk 10 (v:=?vu210) rfl ?hyu210 ?_
    case hyu210=>intro w hSw;(try dsimp only at hSw);go_simp;try with_reducible rfl
    try simp only [Act.put,sA,sZ,sS,gA,gZ,gS]
    refine tk 11 (v:=?vu211) rfl ?hyu211 ?_
    case hyu211=>intro w hSw;(try dsimp only at hSw);go_simp;try with_reducible rfl
    try simp only [Act.put,sA,sZ,sS,gA,gZ,gS]
    refine tk 12 (v:=?vu212) rfl ?hyu212 ?_
    case hyu212=>intro w hSw;(try dsimp only at hSw);go_simp;try with_reducible rfl
    try simp only [Act.put,sA,sZ,sS,gA,gZ,gS]
    refine r1 13 rfl (fun K hK=>?_)
    go_simp
    refine hK.out _ _ trivial (fun _=>?_)
    clear hK K
    try simp only [Act.put,List.getElem_toArray,List.getElem_cons_zero,List.getElem_cons_succ]
    refine wpAnyH_done (by kernel_rfl) ?_ _
    go_wp2_with fail
    go_meet
    exact ⟨_,uh HF⟩
   ·go_simp
    refine hK.out _ _ trivial (fun _=>?_)
    clear hK K
    try simp only [Act.put,sA,sZ,sS,gA,gZ,gS]
    refine r1 5 rfl (fun K hK=>?_)
    go_simp
    refine hK.out _ _ trivial (fun _=>?_)
    clear hK K
    try simp only [Act.put,sA,sZ,sS,gA,gZ,gS]
    refine r1 9 rfl (fun K hK=>?_)
    refine step_append_q (z1.alloc (.cells #[.string t] 9)) (by rfl) _ _ (by rfl) w1.heap.size (.slice qa nq qc) (L.drop k) t z1.heap.size (by rfl) (by rfl) (uh HZ1).1.hq (uh HZ1).2 (by omega) (uh HZ1).1.lo.size ?_
    rintro v4 z2 hq4 hg4
    obtain ⟨a4,c4',rfl⟩:=hq4.form
    have hB2:z2.heap[B]?=some (.cells (lwC ⟨wi,vs,va,vr,ak⟩ M (.slice qa nq qc) (.slice none 0 0) (.slice none 0 0)) 104):=(hg4.block B (Array.getElem?_eq_some_iff.1 (uh HZ1).1.row).1 (fun e=>uh HNQ B e.symm rfl)).trans (uh HZ1).1.row
    have g4:z2.cell? ⟨B,4,none⟩=some (.slice qa nq qc):=(row9l hB2).2.2.2.2.1
    have f4:z2.frozen? ⟨B,4,none⟩=false:=frz hB2 4
    have HF:=hide ((uh HZ1).1.putQ hg4 hq4)
    clear hB2 hq4 hg4
    generalize (L.drop k ++ [t]).length=nl at *
    refine hK.out _ _ trivial (fun _=>?_)
    clear hK K
    try simp only [Act.put,sA,sZ,sS,gA,gZ,gS]
    refine tk 10 (v:=?vu310) rfl ?hyu310 ?_
    case hyu310=>intro w hSw;(try dsimp only at hSw);go_simp;try with_reducible rfl
    try simp only [Act.put,sA,sZ,sS,gA,gZ,gS]
    refine tk 11 (v:=?vu311) rfl ?hyu311 ?_
    case hyu311=>intro w hSw;(try dsimp only at hSw);go_simp;try with_reducible rfl
    try simp only [Act.put,sA,sZ,sS,gA,gZ,gS]
    refine tk 12 (v:=?vu312) rfl ?hyu312 ?_
    case hyu312=>intro w hSw;(try dsimp only at hSw);go_simp;try with_reducible rfl
    try simp only [Act.put,sA,sZ,sS,gA,gZ,gS]
    refine r1 13 rfl (fun K hK=>?_)
    go_simp
    refine hK.out _ _ trivial (fun _=>?_)
    clear hK K
    try simp only [Act.put,List.getElem_toArray,List.getElem_cons_zero,List.getElem_cons_succ]
    refine wpAnyH_done (by kernel_rfl) ?_ _
    go_wp2_with fail
    go_meet
    exact ⟨_,uh HF⟩
 case rest =>
  obtain ⟨vq',hL5⟩:=hcut
  have C5:=hide (uh CO _ _ _ _ _ hL5)
  clear hL5 HZ c4 CC
  go_wp2_with fail
  refine (uh C5).mono ?_
  rintro e q5 ⟨v,vf,vg,rfl,o1,o2,o3,hap,lo5⟩
  rw [← List.append_assoc,List.take_append_drop] at o1
  obtain ⟨va1,vc1,rfl⟩:=own_form o1
  obtain ⟨va2,vc2,rfl⟩:=own_form o2
  obtain ⟨va3,vc3,rfl⟩:=own_form o3
  have kR:=(lo5.block (w.heap.size+1) (by have:=(uh HX).2.2;omega)).trans (uh HX).1
  obtain ⟨r0,r1,r2,r3,r4,r5,r6,r7,r8⟩:=row9l kR
  obtain ⟨f0,f1,f2,f3,f4,f5,f6,f7,f8⟩:=frz9l kR
  have HY:=hide (And.intro o1 (And.intro o2 (And.intro o3 (And.intro hap (And.intro lo5 kR)))))
  clear o1 o2 o3 hap lo5 kR C5 CO
  dsimp only [loC]
  generalize hlt:(L ++ [t]).length=nt at *
  go_wp2_with fail
  obtain ⟨o1,o2,o3,hap,lo5,kR⟩:=uh HY
  obtain ⟨_,hbW,hsW⟩:=uh HX
  refine bodyPost_ret (v:=.agg (loC ⟨wi,vs,va,vr,ak⟩ (.slice va1 nt vc1) (.slice va2 0 vc2) (.slice va3 0 vc3) 0)) (by simp [results,Tryz.results39,asAddr,loC,loadLo (set9_lo kR _ _ _ _ _ _ _ _ _)]) rfl ?_
  exact AnsL.put (o:=⟨⟨wi,vs,va,vr,ak⟩,L ++ [t],[],[],0⟩) (by rw [hlt];exact o1) o2 o3 hap lo5 (by omega) (by omega) hbW _ _ _ _ _ _ _ _ _
end Go.Proofs.YtkcghhkkepndnaaGreatDoor
