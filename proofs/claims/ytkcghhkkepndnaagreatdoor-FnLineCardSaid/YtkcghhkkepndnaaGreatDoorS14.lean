/- The program's end at work takes a text that came; what else lay in memory stands. -/
import Derived.Test.YtkcghhkkepndnaaGreatDoorS11
import Derived.Test.YtkcghhkkepndnaaGreatDoorShW
namespace Go.Proofs.YtkcghhkkepndnaaGreatDoor
open Go.RowKit
theorem step_append_t {ops:Array Oper} {o:Oper} {a:Act} {K:Act→World→Prop} {Q:Exit→Act→World→Prop} {E:Prop} (w:World) (hgd:o.guard=none) (s x:Operand)
  (ho:o.op=.call { callee:=.builtin .append,args:=#[s,x],argTypes:=#[23,23] }) (base:Nat) (v:Value) (G:List ByteArray) (n:Nat) (hn:G.length=n) (t:ByteArray) (A:Nat) (hs:a.eval s=v) (hx:a.eval x=.slice (some ⟨A,0,none⟩) 1 1)
  (hown:w.ownsRow base 9 1 v n (scells G)) (hA:w.heap[A]?=some (.cells #[.string t] 9)) (hlen:n≤1000) (hbase:base≤w.heap.size)
  (h:∀ v' w',w'.ownsRow base 9 1 v' (n+1) (scells (G ++ [t]))→w.grownBy w' v.ownBlock→K (a.put o.dst v') w') :
  if Region.wanted o (yielded ops a.tmps)=true then Oper.wp Tryz.prog o a w K Q else E:=by
 have hw:Region.wanted o (yielded ops a.tmps)=true:=by simp [Region.wanted,hgd]
 rw [if_pos hw]
 obtain ⟨i0,hi0,hz0,hz1,hz2⟩:=sinfo
 obtain ⟨v',w',hr,h2,h3,_⟩:=run_append_own (P:=Tryz.prog) w base 23 o.type 9 i0 _ 1 16 Tryz.underlying23 hi0 hz0 hz1 hz2 rfl (by decide) v n (scells G) hown ⟨A,0,none⟩ 1 1 [.string t] rfl (fun j u hu=>by
   rw [Addr.add_lit,Nat.zero_add,cell_of_row _ _ _ _ _ _ hA,← hu]
   simp) (fun u hu=>by
   simp only [List.mem_cons,List.not_mem_nil,or_false] at hu
   rw [hu]
   rfl) (by unfold maxLen;omega) (by omega) hbase
 unfold Oper.wp execOp
 simp only [ho,resolve,invoke,builtin,Sem.run_bind,Sem.run_pure,Result.andThen_ok,List.map_toArray,List.map_cons,List.map_nil,hs,hx,hr]
 exact h v' w' (by rw [scells_append];exact h2) h3
def takeP (p:Lp) (f:Nb):Lp × List ByteArray × Nb :=
 if f.ns=p.vr then (⟨p.wi,p.vs,p.va,(p.vr+1) % 8,false⟩,[f.text],⟨2,0,(p.vr+1) % 8,⟨#[]⟩⟩) else if p.ak=false then (⟨p.wi,p.vs,p.va,p.vr,true⟩,[],⟨3,0,p.vr,⟨#[]⟩⟩) else (p,[],⟨2,0,p.vr,⟨#[]⟩⟩)
section
variable {w0:World} {B M:Nat} {S Q:List ByteArray} {vq:Value} {q:World}
set_option maxHeartbeats 16000000 in
set_option linter.unusedSimpArgs false in
theorem iTake {p:Lp} (h:Lw w0 B M p S Q [] [] vq (.slice none 0 0) (.slice none 0 0) q) (hr:0≤p.vr∧p.vr≤7) (f:Nb) (hz:f.text.size≤200) :
  Calls Tryz.prog 124 #[.pointer (some ⟨B,0,none⟩),nbV f] q fun e q'=>e=.returned (.tuple #[])∧∃ vf vg,Lw w0 B M (takeP p f).1 S Q [(takeP p f).2.2] (takeP p f).2.1 vq vf vg q':=by
 obtain ⟨qa,qc,rfl⟩:=h.hq.form
 obtain ⟨kf,nf,rf,t⟩:=f
 obtain ⟨wi,vs,va,vr,ak⟩:=p
 dsimp only [nbV] at *
 have CC:=hide fun v=>cloneS t v (by omega)
 have CN:=hide fun v=>iNumN vr hr v
 obtain ⟨R,hR⟩:∃ R,takeP ⟨wi,vs,va,vr,ak⟩ ⟨kf,nf,rf,t⟩=R:=⟨_,rfl⟩
 rw [hR]
 unfold takeP at hR
 dsimp only at hR
 generalize hnq:Q.length=nq at *
 -- what is sent, in any case
 have hb0:Below q.heap.size q (q.alloc (.cells #[.int .i64 kf,.int .i64 nf,.int .i64 rf,.string t] 96)):=(Below.refl _ _).alloc (Nat.le_refl _) _
 have hA0:=heap_alloc_new q (.cells #[.int .i64 kf,.int .i64 nf,.int .i64 rf,.string t] 96)
 have hBq:B<q.heap.size:=(Array.getElem?_eq_some_iff.1 h.row).1
 have H0:=hide (And.intro (h.step hb0) (And.intro hA0 hBq))
 clear h hb0 hA0
 generalize hA:q.heap.size=A at *
 go_enter Tryz.func124,Tryz.ntmps124
 go_upto_region 2 with fail
 refine gen_world (fun z=>Lw w0 B M ⟨wi,vs,va,vr,ak⟩ S Q [] [] (.slice qa nq qc) (.slice none 0 0) (.slice none 0 0) z∧z.heap[A]?=some (.cells #[.int .i64 kf,.int .i64 nf,.int .i64 rf,.string t] 96)) ?_ ?_
 ·exact ⟨(uh H0).1,(uh H0).2.1⟩
 rintro z ⟨z1,z2⟩
 have c3:=(row9l z1.row).2.2.2.1
 have ca1:z.cell? ⟨A,1,none⟩=some (.int .i64 nf):=by rw [cell_of_row _ _ _ _ _ _ z2];rfl
 have HZ:=hide (And.intro z1.drew z2)
 have hAz:A<z.heap.size:=(Array.getElem?_eq_some_iff.1 z2).1
 clear z1 z2
 by_cases hns:nf=vr
 ·rw [if_pos hns] at hR
  have HRR:=hide hR.symm
  clear hR
  subst hns
  go_region
  have HZ0:=HZ
  go_upto_region 3 with fail
  refine gen_world (fun u=>Lw w0 B M ⟨wi,vs,va,nf,ak⟩ S Q [] [] (.slice qa nq qc) (.slice none 0 0) (.slice none 0 0) u∧u.heap[A]?=some (.cells #[.int .i64 kf,.int .i64 nf,.int .i64 rf,.string t] 96)) (uh HZ0) ?_
  clear HZ0 HZ c3 ca1 hAz z
  rintro z ⟨z1,z2⟩
  have ca3:z.drew.cell? ⟨A,3,none⟩=some (.string t):=by rw [cell_of_row _ _ _ _ _ _ (show z.drew.heap[A]?=_ from z2)];rfl
  have hA:A<z.drew.heap.size:=(Array.getElem?_eq_some_iff.1 z2).1
  have c8:=(row9l z1.drew.row).2.2.2.2.2.2.2.2
  have hbz:Below z.heap.size z z.drew:=(Below.refl _ _).drew
  have HZ:=hide z1.drew
  clear z1 z2
  go_cut [14] (fun _ wx=>∃ vg',Lw w0 B M ⟨wi,vs,va,nf,ak⟩ S Q [] [t] (.slice qa nq qc) (.slice none 0 0) vg' wx)
  case first =>
   refine wp_region_held_drew (S:=fun u=>u.cell? ⟨A,3,none⟩=some (.string t)) (by kernel_rfl) ?_ (fun hHeld=>?_)
   ·exact ca3
   refine tk 0 (v:=?vu40) rfl ?hyu40 ?_
   case hyu40=>intro w hSw;(try dsimp only at hSw);go_simp;try with_reducible rfl
   try simp only [Act.put,sA,sZ,sS,gA,gZ]
   refine tk 1 (v:=?vu41) rfl ?hyu41 ?_
   case hyu41=>intro w hSw;(try dsimp only at hSw);go_simp;try with_reducible rfl
   try simp only [Act.put,sA,sZ,sS,gA,gZ,gS]
   refine tk 2 (v:=?vu42) rfl ?hyu42 ?_
   case hyu42=>intro w hSw;(try dsimp only at hSw);go_simp;try with_reducible rfl
   try simp only [Act.put,sA,sZ,sS,gA,gZ,gS]
   refine tk 3 (v:=?vu43) rfl ?hyu43 ?_
   case hyu43=>intro w hSw;(try dsimp only at hSw);go_simp;try with_reducible rfl
   try simp only [Act.put,sA,sZ,sS,gA,gZ,gS]
   refine tk 5 (v:=?vu45) rfl ?hyu45 ?_
   case hyu45=>intro w hSw;(try dsimp only at hSw);go_simp;try with_reducible rfl
   try simp only [Act.put,sA,sZ,sS,gA,gZ,gS]
   refine tk 6 (v:=?vu46) rfl ?hyu46 ?_
   case hyu46=>intro w hSw;(try dsimp only at hSw);go_simp;try with_reducible rfl
   try simp only [Act.put,sA,sZ,sS,gA,gZ,gS]
   refine wpAnyH_ready (rs:=[4,7]) (by kernel_rfl) (by simp) ?_
   refine AllReadyH.cons rfl (fun K hK=>?_) (AllReadyH.cons rfl (fun K hK=>?_) (AllReadyH.nil))
   ·go_simp
    refine hK.out _ _ (by assumption) (fun _=>?_)
    clear hK K
    try simp only [Act.put,sA,sZ,sS,gA,gZ,gS]
    refine r1 7 rfl (fun K hK=>?_)
    go_simp
    refine (uh CC _).mono ?_
    rintro e z1 ⟨rfl,hb1⟩
    have hl1:=(uh HZ).step hb1
    have d8:=(row9l hl1.row).2.2.2.2.2.2.2.2
    have hBl:B<z1.heap.size:=(Array.getElem?_eq_some_iff.1 hl1.row).1
    have hBn:¬ (B=z1.heap.size):=by omega
    have hAl:=Nat.lt_of_lt_of_le hA hb1.size
    have hAn:¬ (A=z1.heap.size):=by omega
    have s1:z1.cell? ⟨A,3,none⟩=some (.string t):=(hb1.cell (p:=⟨A,3,none⟩) hA).trans hHeld
    have hbA:Below z1.heap.size z1 (z1.alloc (.cells #[.string t] 9)):=(Below.refl _ _).alloc (Nat.le_refl _) _
    have s2:(z1.alloc (.cells #[.string t] 9)).cell? ⟨A,3,none⟩=some (.string t):=(hbA.cell (p:=⟨A,3,none⟩) hAl).trans s1
    have hcA:=heap_alloc_new z1 (.cells #[.string t] 9)
    have HZ1:=hide (And.intro (hl1.step hbA) (And.intro hcA (And.intro hAl (hbz.trans (hb1.mono hbz.size)))))
    clear hb1 hl1 hbA hcA
    go_wp2_with fail
    refine hK.out _ _ (s1) (fun _=>?_)
    clear hK K
    try simp only [Act.put,sA,sZ,sS,gA,gZ,gS]
    refine r1 8 rfl (fun K hK=>?_)
    go_simp
    refine hK.out _ _ (s2) (fun _=>?_)
    clear hK K
    try simp only [Act.put,sA,sZ,sS,gA,gZ,gS]
    refine r1 9 rfl (fun K hK=>?_)
    refine step_append_t (z1.alloc (.cells #[.string t] 9)) (by rfl) _ _ (by rfl) w0.heap.size (.slice none 0 0) [] 0 rfl t z1.heap.size (by rfl) (by rfl) (World.ownsRow_nil _ _ _ _) (uh HZ1).2.1 (by omega) (uh HZ1).1.lo.size ?_
    rintro v4 z2 ho4 hg4
    obtain ⟨a4,c4',rfl⟩:=own_form ho4
    have hb4:Below (z1.alloc (.cells #[.string t] 9)).heap.size (z1.alloc (.cells #[.string t] 9)) z2:=⟨hg4.os,hg4.tape,hg4.output,hg4.size,fun k hk=>hg4.block k hk (by simp [Value.ownBlock])⟩
    have hB2:=((uh HZ1).1.step hb4).row
    have g8:z2.cell? ⟨B,8,none⟩=some (.slice none 0 0):=(row9l hB2).2.2.2.2.2.2.2.2
    have f8:z2.frozen? ⟨B,8,none⟩=false:=frz hB2 8
    have s3:z2.cell? ⟨A,3,none⟩=some (.string t):=(hb4.cell (p:=⟨A,3,none⟩) (by simp;omega)).trans s2
    have s4:(z2.setCell ⟨B,8,none⟩ (.slice a4 (0+1) c4')).cell? ⟨A,3,none⟩=some (.string t):=(World.cell?_setCell_far _ _ _ _ (by show B≠A;omega)).trans s3
    have HF:=hide (And.intro ((uh HZ1).1.putG (G':=[t]) hg4 ho4) (And.intro s4 (show z.heap.size≤(z2.setCell ⟨B,8,none⟩ (.slice a4 (0+1) c4')).heap.size by rw [World.size_setCell];have:=hb4.size;have:=(uh HZ1).2.2.2.size;simp at *;omega)))
    clear hB2 ho4 hg4 hb4
    refine hK.out _ _ (s3) (fun _=>?_)
    clear hK K
    try simp only [Act.put,sA,sZ,sS,gA,gZ,gS]
    refine tk 10 (v:=?vu110) rfl ?hyu110 ?_
    case hyu110=>intro w hSw;(try dsimp only at hSw);go_simp;try with_reducible rfl
    try simp only [Act.put,sA,sZ,sS,gA,gZ,gS]
    refine tk 11 (v:=?vu111) rfl ?hyu111 ?_
    case hyu111=>intro w hSw;(try dsimp only at hSw);go_simp;try with_reducible rfl
    try simp only [Act.put,sA,sZ,sS,gA,gZ,gS]
    refine r1 12 rfl (fun K hK=>?_)
    go_simp
    refine hK.out _ _ ((uh HF).2.1) (fun _=>?_)
    clear hK K
    try simp only [Act.put,sA,sZ,sS,gA,gZ,gS]
    try simp only [Act.put,List.getElem_toArray,List.getElem_cons_zero,List.getElem_cons_succ]
    refine wpAnyH_done (by kernel_rfl) ?_ _
    go_wp2_with fail
    go_meet
    exact ⟨_,(uh HF).1⟩
   ·go_simp
    refine (uh CC _).mono ?_
    rintro e z1 ⟨rfl,hb1⟩
    have hl1:=(uh HZ).step hb1
    have d8:=(row9l hl1.row).2.2.2.2.2.2.2.2
    have hBl:B<z1.heap.size:=(Array.getElem?_eq_some_iff.1 hl1.row).1
    have hBn:¬ (B=z1.heap.size):=by omega
    have hAl:=Nat.lt_of_lt_of_le hA hb1.size
    have hAn:¬ (A=z1.heap.size):=by omega
    have s1:z1.cell? ⟨A,3,none⟩=some (.string t):=(hb1.cell (p:=⟨A,3,none⟩) hA).trans hHeld
    have hbA:Below z1.heap.size z1 (z1.alloc (.cells #[.string t] 9)):=(Below.refl _ _).alloc (Nat.le_refl _) _
    have s2:(z1.alloc (.cells #[.string t] 9)).cell? ⟨A,3,none⟩=some (.string t):=(hbA.cell (p:=⟨A,3,none⟩) hAl).trans s1
    have hcA:=heap_alloc_new z1 (.cells #[.string t] 9)
    have HZ1:=hide (And.intro (hl1.step hbA) (And.intro hcA (And.intro hAl (hbz.trans (hb1.mono hbz.size)))))
    clear hb1 hl1 hbA hcA
    go_wp2_with fail
    refine hK.out _ _ (s1) (fun _=>?_)
    clear hK K
    try simp only [Act.put,sA,sZ,sS,gA,gZ,gS]
    refine wpAnyH_ready (rs:=[4,8]) (by kernel_rfl) (by simp) ?_
    refine AllReadyH.cons rfl (fun K hK=>?_) (AllReadyH.cons rfl (fun K hK=>?_) (AllReadyH.nil))
    ·go_simp
     refine hK.out _ _ (s1) (fun _=>?_)
     clear hK K
     try simp only [Act.put,sA,sZ,sS,gA,gZ,gS]
     refine r1 8 rfl (fun K hK=>?_)
     go_simp
     refine hK.out _ _ (s2) (fun _=>?_)
     clear hK K
     try simp only [Act.put,sA,sZ,sS,gA,gZ,gS]
     refine r1 9 rfl (fun K hK=>?_)
     refine step_append_t (z1.alloc (.cells #[.string t] 9)) (by rfl) _ _ (by rfl) w0.heap.size (.slice none 0 0) [] 0 rfl t z1.heap.size (by rfl) (by rfl) (World.ownsRow_nil _ _ _ _) (uh HZ1).2.1 (by omega) (uh HZ1).1.lo.size ?_
     rintro v4 z2 ho4 hg4
     obtain ⟨a4,c4',rfl⟩:=own_form ho4
     have hb4:Below (z1.alloc (.cells #[.string t] 9)).heap.size (z1.alloc (.cells #[.string t] 9)) z2:=⟨hg4.os,hg4.tape,hg4.output,hg4.size,fun k hk=>hg4.block k hk (by simp [Value.ownBlock])⟩
     have hB2:=((uh HZ1).1.step hb4).row
     have g8:z2.cell? ⟨B,8,none⟩=some (.slice none 0 0):=(row9l hB2).2.2.2.2.2.2.2.2
     have f8:z2.frozen? ⟨B,8,none⟩=false:=frz hB2 8
     have s3:z2.cell? ⟨A,3,none⟩=some (.string t):=(hb4.cell (p:=⟨A,3,none⟩) (by simp;omega)).trans s2
     have s4:(z2.setCell ⟨B,8,none⟩ (.slice a4 (0+1) c4')).cell? ⟨A,3,none⟩=some (.string t):=(World.cell?_setCell_far _ _ _ _ (by show B≠A;omega)).trans s3
     have HF:=hide (And.intro ((uh HZ1).1.putG (G':=[t]) hg4 ho4) (And.intro s4 (show z.heap.size≤(z2.setCell ⟨B,8,none⟩ (.slice a4 (0+1) c4')).heap.size by rw [World.size_setCell];have:=hb4.size;have:=(uh HZ1).2.2.2.size;simp at *;omega)))
     clear hB2 ho4 hg4 hb4
     refine hK.out _ _ (s3) (fun _=>?_)
     clear hK K
     try simp only [Act.put,sA,sZ,sS,gA,gZ,gS]
     refine tk 10 (v:=?vu210) rfl ?hyu210 ?_
     case hyu210=>intro w hSw;(try dsimp only at hSw);go_simp;try with_reducible rfl
     try simp only [Act.put,sA,sZ,sS,gA,gZ,gS]
     refine tk 11 (v:=?vu211) rfl ?hyu211 ?_
     case hyu211=>intro w hSw;(try dsimp only at hSw);go_simp;try with_reducible rfl
     try simp only [Act.put,sA,sZ,sS,gA,gZ,gS]
     refine r1 12 rfl (fun K hK=>?_)
     go_simp
     refine hK.out _ _ ((uh HF).2.1) (fun _=>?_)
     clear hK K
     try simp only [Act.put,sA,sZ,sS,gA,gZ,gS]
     try simp only [Act.put,List.getElem_toArray,List.getElem_cons_zero,List.getElem_cons_succ]
     refine wpAnyH_done (by kernel_rfl) ?_ _
     go_wp2_with fail
     go_meet
     exact ⟨_,(uh HF).1⟩
    ·go_simp
     refine hK.out _ _ (s2) (fun _=>?_)
     clear hK K
     try simp only [Act.put,sA,sZ,sS,gA,gZ,gS]
     refine r1 4 rfl (fun K hK=>?_)
     go_simp
     refine hK.out _ _ (s2) (fun _=>?_)
     clear hK K
     try simp only [Act.put,sA,sZ,sS,gA,gZ,gS]
     refine r1 9 rfl (fun K hK=>?_)
     refine step_append_t (z1.alloc (.cells #[.string t] 9)) (by rfl) _ _ (by rfl) w0.heap.size (.slice none 0 0) [] 0 rfl t z1.heap.size (by rfl) (by rfl) (World.ownsRow_nil _ _ _ _) (uh HZ1).2.1 (by omega) (uh HZ1).1.lo.size ?_
     rintro v4 z2 ho4 hg4
     obtain ⟨a4,c4',rfl⟩:=own_form ho4
     have hb4:Below (z1.alloc (.cells #[.string t] 9)).heap.size (z1.alloc (.cells #[.string t] 9)) z2:=⟨hg4.os,hg4.tape,hg4.output,hg4.size,fun k hk=>hg4.block k hk (by simp [Value.ownBlock])⟩
     have hB2:=((uh HZ1).1.step hb4).row
     have g8:z2.cell? ⟨B,8,none⟩=some (.slice none 0 0):=(row9l hB2).2.2.2.2.2.2.2.2
     have f8:z2.frozen? ⟨B,8,none⟩=false:=frz hB2 8
     have s3:z2.cell? ⟨A,3,none⟩=some (.string t):=(hb4.cell (p:=⟨A,3,none⟩) (by simp;omega)).trans s2
     have s4:(z2.setCell ⟨B,8,none⟩ (.slice a4 (0+1) c4')).cell? ⟨A,3,none⟩=some (.string t):=(World.cell?_setCell_far _ _ _ _ (by show B≠A;omega)).trans s3
     have HF:=hide (And.intro ((uh HZ1).1.putG (G':=[t]) hg4 ho4) (And.intro s4 (show z.heap.size≤(z2.setCell ⟨B,8,none⟩ (.slice a4 (0+1) c4')).heap.size by rw [World.size_setCell];have:=hb4.size;have:=(uh HZ1).2.2.2.size;simp at *;omega)))
     clear hB2 ho4 hg4 hb4
     refine hK.out _ _ (s3) (fun _=>?_)
     clear hK K
     try simp only [Act.put,sA,sZ,sS,gA,gZ,gS]
     refine tk 10 (v:=?vu310) rfl ?hyu310 ?_
     case hyu310=>intro w hSw;(try dsimp only at hSw);go_simp;try with_reducible rfl
     try simp only [Act.put,sA,sZ,sS,gA,gZ,gS]
     refine tk 11 (v:=?vu311) rfl ?hyu311 ?_
     case hyu311=>intro w hSw;(try dsimp only at hSw);go_simp;try with_reducible rfl
     try simp only [Act.put,sA,sZ,sS,gA,gZ,gS]
     refine r1 12 rfl (fun K hK=>?_)
     go_simp
     refine hK.out _ _ ((uh HF).2.1) (fun _=>?_)
     clear hK K
     try simp only [Act.put,sA,sZ,sS,gA,gZ,gS]
     try simp only [Act.put,List.getElem_toArray,List.getElem_cons_zero,List.getElem_cons_succ]
     refine wpAnyH_done (by kernel_rfl) ?_ _
     go_wp2_with fail
     go_meet
     exact ⟨_,(uh HF).1⟩
  case rest =>
   obtain ⟨vg',hL⟩:=hcut
   obtain ⟨ga,gc,rfl⟩:=own_form hL.og
   have hL4:=hL.setP (i:=3) (x:=.int .i64 ((nf+1) % 8)) (p':=⟨wi,vs,va,(nf+1) % 8,ak⟩) rfl rfl
   have hL5:=hL4.setP (i:=5) (x:=.bool false) (p':=⟨wi,vs,va,(nf+1) % 8,false⟩) rfl rfl
   obtain ⟨b0,b1,b2,b3,b4,b5,b6,b7,b8⟩:=row9l hL.row
   have p3:=frz hL.row 3
   have p5:=frz hL.row 5
   have HL5:=hide hL5
   clear hL hL4 hL5 HZ ca3 c8
   dsimp only at *
   go_upto_region 9 with (first
    | (go_at_call 114;refine (uh CN _).mono ?_;rintro e w3 ⟨rfl,hw⟩;replace hw:=hw.symm;subst hw))
   refine gen_world (fun u=>Lw w0 B M ⟨wi,vs,va,(nf+1) % 8,false⟩ S Q [] [t] (.slice qa nq qc) (.slice none 0 0) (.slice ga [t].length gc) u) ?_ ?_
   ·exact uh HL5
   clear HL5 b0 b1 b2 b3 b4 b5 b6 b7 b8 p3 p5 hbz hA z
   rintro z z1
   generalize hur:(nf+1) % 8=ur at *
   clear hur
   have c3:=(row9l z1.drew.row).2.2.2.1
   have c7:=(row9l z1.drew.row).2.2.2.2.2.2.2.1
   have HZ:=hide z1.drew
   clear z1
   dsimp only at c3
   refine wp_region_held_drew (S:=fun u=>u.cell? ⟨B,3,none⟩=some (.int .i64 ur)) (by kernel_rfl) ?_ (fun hHeld=>?_)
   ·exact c3
   generalize z.drew=y at *
   refine tk 0 (v:=?vu70) rfl ?hyu70 ?_
   case hyu70=>intro w hSw;(try dsimp only at hSw);go_simp;try with_reducible rfl
   try simp only [Act.put,sA,sZ,sS,gA,gZ]
   refine tk 1 (v:=?vu71) rfl ?hyu71 ?_
   case hyu71=>intro w hSw;(try dsimp only at hSw);go_simp;try with_reducible rfl
   try simp only [Act.put,sA,sZ,sS,gA,gZ,gS]
   refine tk 2 (v:=?vu72) rfl ?hyu72 ?_
   case hyu72=>intro w hSw;(try dsimp only at hSw);go_simp;try with_reducible rfl
   try simp only [Act.put,sA,sZ,sS,gA,gZ,gS]
   refine tk 3 (v:=?vu73) rfl ?hyu73 ?_
   case hyu73=>intro w hSw;(try dsimp only at hSw);go_simp;try with_reducible rfl
   try simp only [Act.put,sA,sZ,sS,gA,gZ,gS]
   refine tk 5 (v:=?vu75) rfl ?hyu75 ?_
   case hyu75=>intro w hSw;(try dsimp only at hSw);go_simp;try with_reducible rfl
   try simp only [Act.put,sA,sZ,sS,gA,gZ,gS]
   refine tk 6 (v:=?vu76) rfl ?hyu76 ?_
   case hyu76=>intro w hSw;(try dsimp only at hSw);go_simp;try with_reducible rfl
   try simp only [Act.put,sA,sZ,sS,gA,gZ,gS]
   refine tk 7 (v:=?vu77) rfl ?hyu77 ?_
   case hyu77=>intro w hSw;(try dsimp only at hSw);go_simp;try with_reducible rfl
   try simp only [Act.put,sA,sZ,sS,gA,gZ,gS]
   refine tk 8 (v:=?vu78) rfl ?hyu78 ?_
   case hyu78=>intro w hSw;(try dsimp only at hSw);go_simp;try with_reducible rfl
   try simp only [Act.put,sA,sZ,sS,gA,gZ,gS]
   refine tk 9 (v:=?vu79) rfl ?hyu79 ?_
   case hyu79=>intro w hSw;(try dsimp only at hSw);go_simp;try with_reducible rfl
   try simp only [Act.put,sA,sZ,sS,gA,gZ,gS]
   refine tk 10 (v:=?vu710) rfl ?hyu710 ?_
   case hyu710=>intro w hSw;(try dsimp only at hSw);go_simp;try with_reducible rfl
   try simp only [Act.put,sA,sZ,sS,gA,gZ,gS]
   refine tk 11 (v:=?vu711) rfl ?hyu711 ?_
   case hyu711=>intro w hSw;(try dsimp only at hSw);go_simp;try with_reducible rfl
   try simp only [Act.put,sA,sZ,sS,gA,gZ,gS]
   refine wpAnyH_ready (rs:=[4,12]) (by kernel_rfl) (by simp) ?_
   refine AllReadyH.cons rfl (fun K hK=>?_) (AllReadyH.cons rfl (fun K hK=>?_) (AllReadyH.nil))
   ·go_simp
    refine hK.out _ _ (by assumption) (fun _=>?_)
    clear hK K
    try simp only [Act.put,sA,sZ,sS,gA,gZ,gS]
    refine r1 12 rfl (fun K hK=>?_)
    go_simp
    have hbA:Below y.heap.size y (y.alloc (.cells #[.int .i64 2,.int .i64 0,.int .i64 ur,.string ⟨#[]⟩] 96)):=(Below.refl y.heap.size y).alloc (Nat.le_refl _) _
    have hl1:=(uh HZ).step hbA
    have d7:=(row9l hl1.row).2.2.2.2.2.2.2.1
    have s1:=(row9l hl1.row).2.2.2.1
    have hcA:=heap_alloc_new y (.cells #[.int .i64 2,.int .i64 0,.int .i64 ur,.string ⟨#[]⟩] 96)
    have HZ1:=hide (And.intro hl1 hcA)
    clear hbA hl1 hcA
    refine hK.out _ _ (s1) (fun _=>?_)
    clear hK K
    try simp only [Act.put,sA,sZ,sS,gA,gZ,gS]
    refine r1 13 rfl (fun K hK=>?_)
    refine step_append_nb (y.alloc (.cells #[.int .i64 2,.int .i64 0,.int .i64 ur,.string ⟨#[]⟩] 96)) (by rfl) _ _ (by rfl) w0.heap.size (.slice none 0 0) [] 0 rfl 2 0 ur ⟨#[]⟩ y.heap.size (by rfl) (by rfl) (World.ownsRow_nil _ _ _ _) (uh HZ1).2 (by omega) (uh HZ1).1.lo.size ?_
    rintro v4 z2 ho4 hg4
    obtain ⟨a4,c4',rfl⟩:=own_form ho4
    have hB2:=((uh HZ1).1.step ⟨hg4.os,hg4.tape,hg4.output,hg4.size,fun k hk=>hg4.block k hk (by simp [Value.ownBlock])⟩).row
    have g7:z2.cell? ⟨B,7,none⟩=some (.slice none 0 0):=(row9l hB2).2.2.2.2.2.2.2.1
    have f7:z2.frozen? ⟨B,7,none⟩=false:=frz hB2 7
    have s3:=(row9l hB2).2.2.2.1
    have hF:=(uh HZ1).1.putF (F':=[⟨2,0,ur,⟨#[]⟩⟩]) hg4 ho4
    have s4:=(row9l hF.row).2.2.2.1
    have HF:=hide hF
    clear hB2 ho4 hg4 hF
    refine hK.out _ _ (s3) (fun _=>?_)
    clear hK K
    try simp only [Act.put,sA,sZ,sS,gA,gZ,gS]
    refine tk 14 (v:=?vu514) rfl ?hyu514 ?_
    case hyu514=>intro w hSw;(try dsimp only at hSw);go_simp;try with_reducible rfl
    try simp only [Act.put,sA,sZ,sS,gA,gZ,gS]
    refine tk 15 (v:=?vu515) rfl ?hyu515 ?_
    case hyu515=>intro w hSw;(try dsimp only at hSw);go_simp;try with_reducible rfl
    try simp only [Act.put,sA,sZ,sS,gA,gZ,gS]
    refine r1 16 rfl (fun K hK=>?_)
    go_simp
    refine hK.out _ _ (s4) (fun _=>?_)
    clear hK K
    try simp only [Act.put,sA,sZ,sS,gA,gZ,gS]
    try simp only [Act.put,List.getElem_toArray,List.getElem_cons_zero,List.getElem_cons_succ]
    refine wpAnyH_done (by kernel_rfl) ?_ _
    go_wp2_with fail
    exact Great.bodyPost_end0 rfl rfl ⟨rfl,_,_,by rw [uh HRR];exact uh HF⟩
   ·go_simp
    have hbA:Below y.heap.size y (y.alloc (.cells #[.int .i64 2,.int .i64 0,.int .i64 ur,.string ⟨#[]⟩] 96)):=(Below.refl y.heap.size y).alloc (Nat.le_refl _) _
    have hl1:=(uh HZ).step hbA
    have d7:=(row9l hl1.row).2.2.2.2.2.2.2.1
    have s1:=(row9l hl1.row).2.2.2.1
    have hcA:=heap_alloc_new y (.cells #[.int .i64 2,.int .i64 0,.int .i64 ur,.string ⟨#[]⟩] 96)
    have HZ1:=hide (And.intro hl1 hcA)
    clear hbA hl1 hcA
    refine hK.out _ _ (s1) (fun _=>?_)
    clear hK K
    try simp only [Act.put,sA,sZ,sS,gA,gZ,gS]
    refine r1 4 rfl (fun K hK=>?_)
    go_simp
    refine hK.out _ _ (s1) (fun _=>?_)
    clear hK K
    try simp only [Act.put,sA,sZ,sS,gA,gZ,gS]
    refine r1 13 rfl (fun K hK=>?_)
    refine step_append_nb (y.alloc (.cells #[.int .i64 2,.int .i64 0,.int .i64 ur,.string ⟨#[]⟩] 96)) (by rfl) _ _ (by rfl) w0.heap.size (.slice none 0 0) [] 0 rfl 2 0 ur ⟨#[]⟩ y.heap.size (by rfl) (by rfl) (World.ownsRow_nil _ _ _ _) (uh HZ1).2 (by omega) (uh HZ1).1.lo.size ?_
    rintro v4 z2 ho4 hg4
    obtain ⟨a4,c4',rfl⟩:=own_form ho4
    have hB2:=((uh HZ1).1.step ⟨hg4.os,hg4.tape,hg4.output,hg4.size,fun k hk=>hg4.block k hk (by simp [Value.ownBlock])⟩).row
    have g7:z2.cell? ⟨B,7,none⟩=some (.slice none 0 0):=(row9l hB2).2.2.2.2.2.2.2.1
    have f7:z2.frozen? ⟨B,7,none⟩=false:=frz hB2 7
    have s3:=(row9l hB2).2.2.2.1
    have hF:=(uh HZ1).1.putF (F':=[⟨2,0,ur,⟨#[]⟩⟩]) hg4 ho4
    have s4:=(row9l hF.row).2.2.2.1
    have HF:=hide hF
    clear hB2 ho4 hg4 hF
    refine hK.out _ _ (s3) (fun _=>?_)
    clear hK K
    try simp only [Act.put,sA,sZ,sS,gA,gZ,gS]
    refine tk 14 (v:=?vu614) rfl ?hyu614 ?_
    case hyu614=>intro w hSw;(try dsimp only at hSw);go_simp;try with_reducible rfl
    try simp only [Act.put,sA,sZ,sS,gA,gZ,gS]
    refine tk 15 (v:=?vu615) rfl ?hyu615 ?_
    case hyu615=>intro w hSw;(try dsimp only at hSw);go_simp;try with_reducible rfl
    try simp only [Act.put,sA,sZ,sS,gA,gZ,gS]
    refine r1 16 rfl (fun K hK=>?_)
    go_simp
    refine hK.out _ _ (s4) (fun _=>?_)
    clear hK K
    try simp only [Act.put,sA,sZ,sS,gA,gZ,gS]
    try simp only [Act.put,List.getElem_toArray,List.getElem_cons_zero,List.getElem_cons_succ]
    refine wpAnyH_done (by kernel_rfl) ?_ _
    go_wp2_with fail
    exact Great.bodyPost_end0 rfl rfl ⟨rfl,_,_,by rw [uh HRR];exact uh HF⟩
 ·rw [if_neg hns] at hR
  have d1:(nf == vr)=false:=beq_eq_false_iff_ne.2 hns
  go_region
  have c5:=(row9l (uh HZ).1.row).2.2.2.2.2.1
  cases ak
  ·rw [if_pos rfl] at hR
   have HRR:=hide hR.symm
   clear hR
   have hL5:=(uh HZ).1.setP (i:=5) (x:=.bool true) (p':=⟨wi,vs,va,vr,true⟩) rfl rfl
   have p5:=frz (uh HZ).1.row 5
   have HL5:=hide hL5
   clear hL5 HZ
   dsimp only at *
   go_upto_region 9 with fail
   refine gen_world (fun u=>Lw w0 B M ⟨wi,vs,va,vr,true⟩ S Q [] [] (.slice qa nq qc) (.slice none 0 0) (.slice none 0 0) u) ?_ ?_
   ·exact uh HL5
   clear HL5 c5 p5 c3 ca1 hAz z
   rintro z z1
   have c3:=(row9l z1.drew.row).2.2.2.1
   have c7:=(row9l z1.drew.row).2.2.2.2.2.2.2.1
   have HZ:=hide z1.drew
   clear z1
   dsimp only at c3
   refine wp_region_held_drew (S:=fun u=>u.cell? ⟨B,3,none⟩=some (.int .i64 vr)) (by kernel_rfl) ?_ (fun hHeld=>?_)
   ·exact c3
   generalize z.drew=y at *
   refine tk 0 (v:=?vu100) rfl ?hyu100 ?_
   case hyu100=>intro w hSw;(try dsimp only at hSw);go_simp;try with_reducible rfl
   try simp only [Act.put,sA,sZ,sS,gA,gZ]
   refine tk 1 (v:=?vu101) rfl ?hyu101 ?_
   case hyu101=>intro w hSw;(try dsimp only at hSw);go_simp;try with_reducible rfl
   try simp only [Act.put,sA,sZ,sS,gA,gZ,gS]
   refine tk 2 (v:=?vu102) rfl ?hyu102 ?_
   case hyu102=>intro w hSw;(try dsimp only at hSw);go_simp;try with_reducible rfl
   try simp only [Act.put,sA,sZ,sS,gA,gZ,gS]
   refine tk 3 (v:=?vu103) rfl ?hyu103 ?_
   case hyu103=>intro w hSw;(try dsimp only at hSw);go_simp;try with_reducible rfl
   try simp only [Act.put,sA,sZ,sS,gA,gZ,gS]
   refine tk 5 (v:=?vu105) rfl ?hyu105 ?_
   case hyu105=>intro w hSw;(try dsimp only at hSw);go_simp;try with_reducible rfl
   try simp only [Act.put,sA,sZ,sS,gA,gZ,gS]
   refine tk 6 (v:=?vu106) rfl ?hyu106 ?_
   case hyu106=>intro w hSw;(try dsimp only at hSw);go_simp;try with_reducible rfl
   try simp only [Act.put,sA,sZ,sS,gA,gZ,gS]
   refine tk 7 (v:=?vu107) rfl ?hyu107 ?_
   case hyu107=>intro w hSw;(try dsimp only at hSw);go_simp;try with_reducible rfl
   try simp only [Act.put,sA,sZ,sS,gA,gZ,gS]
   refine tk 8 (v:=?vu108) rfl ?hyu108 ?_
   case hyu108=>intro w hSw;(try dsimp only at hSw);go_simp;try with_reducible rfl
   try simp only [Act.put,sA,sZ,sS,gA,gZ,gS]
   refine tk 9 (v:=?vu109) rfl ?hyu109 ?_
   case hyu109=>intro w hSw;(try dsimp only at hSw);go_simp;try with_reducible rfl
   try simp only [Act.put,sA,sZ,sS,gA,gZ,gS]
   refine tk 10 (v:=?vu1010) rfl ?hyu1010 ?_
   case hyu1010=>intro w hSw;(try dsimp only at hSw);go_simp;try with_reducible rfl
   try simp only [Act.put,sA,sZ,sS,gA,gZ,gS]
   refine tk 11 (v:=?vu1011) rfl ?hyu1011 ?_
   case hyu1011=>intro w hSw;(try dsimp only at hSw);go_simp;try with_reducible rfl
   try simp only [Act.put,sA,sZ,sS,gA,gZ,gS]
   refine wpAnyH_ready (rs:=[4,12]) (by kernel_rfl) (by simp) ?_
   refine AllReadyH.cons rfl (fun K hK=>?_) (AllReadyH.cons rfl (fun K hK=>?_) (AllReadyH.nil))
   ·go_simp
    refine hK.out _ _ (by assumption) (fun _=>?_)
    clear hK K
    try simp only [Act.put,sA,sZ,sS,gA,gZ,gS]
    refine r1 12 rfl (fun K hK=>?_)
    go_simp
    have hbA:Below y.heap.size y (y.alloc (.cells #[.int .i64 3,.int .i64 0,.int .i64 vr,.string ⟨#[]⟩] 96)):=(Below.refl y.heap.size y).alloc (Nat.le_refl _) _
    have hl1:=(uh HZ).step hbA
    have d7:=(row9l hl1.row).2.2.2.2.2.2.2.1
    have s1:=(row9l hl1.row).2.2.2.1
    have hcA:=heap_alloc_new y (.cells #[.int .i64 3,.int .i64 0,.int .i64 vr,.string ⟨#[]⟩] 96)
    have HZ1:=hide (And.intro hl1 hcA)
    clear hbA hl1 hcA
    refine hK.out _ _ (s1) (fun _=>?_)
    clear hK K
    try simp only [Act.put,sA,sZ,sS,gA,gZ,gS]
    refine r1 13 rfl (fun K hK=>?_)
    refine step_append_nb (y.alloc (.cells #[.int .i64 3,.int .i64 0,.int .i64 vr,.string ⟨#[]⟩] 96)) (by rfl) _ _ (by rfl) w0.heap.size (.slice none 0 0) [] 0 rfl 3 0 vr ⟨#[]⟩ y.heap.size (by rfl) (by rfl) (World.ownsRow_nil _ _ _ _) (uh HZ1).2 (by omega) (uh HZ1).1.lo.size ?_
    rintro v4 z2 ho4 hg4
    obtain ⟨a4,c4',rfl⟩:=own_form ho4
    have hB2:=((uh HZ1).1.step ⟨hg4.os,hg4.tape,hg4.output,hg4.size,fun k hk=>hg4.block k hk (by simp [Value.ownBlock])⟩).row
    have g7:z2.cell? ⟨B,7,none⟩=some (.slice none 0 0):=(row9l hB2).2.2.2.2.2.2.2.1
    have f7:z2.frozen? ⟨B,7,none⟩=false:=frz hB2 7
    have s3:=(row9l hB2).2.2.2.1
    have hF:=(uh HZ1).1.putF (F':=[⟨3,0,vr,⟨#[]⟩⟩]) hg4 ho4
    have s4:=(row9l hF.row).2.2.2.1
    have HF:=hide hF
    clear hB2 ho4 hg4 hF
    refine hK.out _ _ (s3) (fun _=>?_)
    clear hK K
    try simp only [Act.put,sA,sZ,sS,gA,gZ,gS]
    refine tk 14 (v:=?vu814) rfl ?hyu814 ?_
    case hyu814=>intro w hSw;(try dsimp only at hSw);go_simp;try with_reducible rfl
    try simp only [Act.put,sA,sZ,sS,gA,gZ,gS]
    refine tk 15 (v:=?vu815) rfl ?hyu815 ?_
    case hyu815=>intro w hSw;(try dsimp only at hSw);go_simp;try with_reducible rfl
    try simp only [Act.put,sA,sZ,sS,gA,gZ,gS]
    refine r1 16 rfl (fun K hK=>?_)
    go_simp
    refine hK.out _ _ (s4) (fun _=>?_)
    clear hK K
    try simp only [Act.put,sA,sZ,sS,gA,gZ,gS]
    try simp only [Act.put,List.getElem_toArray,List.getElem_cons_zero,List.getElem_cons_succ]
    refine wpAnyH_done (by kernel_rfl) ?_ _
    go_wp2_with fail
    exact Great.bodyPost_end0 rfl rfl ⟨rfl,_,_,by rw [uh HRR];exact uh HF⟩
   ·go_simp
    have hbA:Below y.heap.size y (y.alloc (.cells #[.int .i64 3,.int .i64 0,.int .i64 vr,.string ⟨#[]⟩] 96)):=(Below.refl y.heap.size y).alloc (Nat.le_refl _) _
    have hl1:=(uh HZ).step hbA
    have d7:=(row9l hl1.row).2.2.2.2.2.2.2.1
    have s1:=(row9l hl1.row).2.2.2.1
    have hcA:=heap_alloc_new y (.cells #[.int .i64 3,.int .i64 0,.int .i64 vr,.string ⟨#[]⟩] 96)
    have HZ1:=hide (And.intro hl1 hcA)
    clear hbA hl1 hcA
    refine hK.out _ _ (s1) (fun _=>?_)
    clear hK K
    try simp only [Act.put,sA,sZ,sS,gA,gZ,gS]
    refine r1 4 rfl (fun K hK=>?_)
    go_simp
    refine hK.out _ _ (s1) (fun _=>?_)
    clear hK K
    try simp only [Act.put,sA,sZ,sS,gA,gZ,gS]
    refine r1 13 rfl (fun K hK=>?_)
    refine step_append_nb (y.alloc (.cells #[.int .i64 3,.int .i64 0,.int .i64 vr,.string ⟨#[]⟩] 96)) (by rfl) _ _ (by rfl) w0.heap.size (.slice none 0 0) [] 0 rfl 3 0 vr ⟨#[]⟩ y.heap.size (by rfl) (by rfl) (World.ownsRow_nil _ _ _ _) (uh HZ1).2 (by omega) (uh HZ1).1.lo.size ?_
    rintro v4 z2 ho4 hg4
    obtain ⟨a4,c4',rfl⟩:=own_form ho4
    have hB2:=((uh HZ1).1.step ⟨hg4.os,hg4.tape,hg4.output,hg4.size,fun k hk=>hg4.block k hk (by simp [Value.ownBlock])⟩).row
    have g7:z2.cell? ⟨B,7,none⟩=some (.slice none 0 0):=(row9l hB2).2.2.2.2.2.2.2.1
    have f7:z2.frozen? ⟨B,7,none⟩=false:=frz hB2 7
    have s3:=(row9l hB2).2.2.2.1
    have hF:=(uh HZ1).1.putF (F':=[⟨3,0,vr,⟨#[]⟩⟩]) hg4 ho4
    have s4:=(row9l hF.row).2.2.2.1
    have HF:=hide hF
    clear hB2 ho4 hg4 hF
    refine hK.out _ _ (s3) (fun _=>?_)
    clear hK K
    try simp only [Act.put,sA,sZ,sS,gA,gZ,gS]
    refine tk 14 (v:=?vu914) rfl ?hyu914 ?_
    case hyu914=>intro w hSw;(try dsimp only at hSw);go_simp;try with_reducible rfl
    try simp only [Act.put,sA,sZ,sS,gA,gZ,gS]
    refine tk 15 (v:=?vu915) rfl ?hyu915 ?_
    case hyu915=>intro w hSw;(try dsimp only at hSw);go_simp;try with_reducible rfl
    try simp only [Act.put,sA,sZ,sS,gA,gZ,gS]
    refine r1 16 rfl (fun K hK=>?_)
    go_simp
    refine hK.out _ _ (s4) (fun _=>?_)
    clear hK K
    try simp only [Act.put,sA,sZ,sS,gA,gZ,gS]
    try simp only [Act.put,List.getElem_toArray,List.getElem_cons_zero,List.getElem_cons_succ]
    refine wpAnyH_done (by kernel_rfl) ?_ _
    go_wp2_with fail
    exact Great.bodyPost_end0 rfl rfl ⟨rfl,_,_,by rw [uh HRR];exact uh HF⟩
  ·rw [if_neg (by decide)] at hR
   have HRR:=hide hR.symm
   clear hR
   have HL5:=hide (uh HZ).1
   clear HZ
   dsimp only at *
   go_upto_region 9 with fail
   refine gen_world (fun u=>Lw w0 B M ⟨wi,vs,va,vr,true⟩ S Q [] [] (.slice qa nq qc) (.slice none 0 0) (.slice none 0 0) u) ?_ ?_
   ·exact uh HL5
   clear HL5 c5 c3 ca1 hAz z
   rintro z z1
   have c3:=(row9l z1.drew.row).2.2.2.1
   have c7:=(row9l z1.drew.row).2.2.2.2.2.2.2.1
   have HZ:=hide z1.drew
   clear z1
   dsimp only at c3
   refine wp_region_held_drew (S:=fun u=>u.cell? ⟨B,3,none⟩=some (.int .i64 vr)) (by kernel_rfl) ?_ (fun hHeld=>?_)
   ·exact c3
   generalize z.drew=y at *
   refine tk 0 (v:=?vu130) rfl ?hyu130 ?_
   case hyu130=>intro w hSw;(try dsimp only at hSw);go_simp;try with_reducible rfl
   try simp only [Act.put,sA,sZ,sS,gA,gZ]
   refine tk 1 (v:=?vu131) rfl ?hyu131 ?_
   case hyu131=>intro w hSw;(try dsimp only at hSw);go_simp;try with_reducible rfl
   try simp only [Act.put,sA,sZ,sS,gA,gZ,gS]
   refine tk 2 (v:=?vu132) rfl ?hyu132 ?_
   case hyu132=>intro w hSw;(try dsimp only at hSw);go_simp;try with_reducible rfl
   try simp only [Act.put,sA,sZ,sS,gA,gZ,gS]
   refine tk 3 (v:=?vu133) rfl ?hyu133 ?_
   case hyu133=>intro w hSw;(try dsimp only at hSw);go_simp;try with_reducible rfl
   try simp only [Act.put,sA,sZ,sS,gA,gZ,gS]
   refine tk 5 (v:=?vu135) rfl ?hyu135 ?_
   case hyu135=>intro w hSw;(try dsimp only at hSw);go_simp;try with_reducible rfl
   try simp only [Act.put,sA,sZ,sS,gA,gZ,gS]
   refine tk 6 (v:=?vu136) rfl ?hyu136 ?_
   case hyu136=>intro w hSw;(try dsimp only at hSw);go_simp;try with_reducible rfl
   try simp only [Act.put,sA,sZ,sS,gA,gZ,gS]
   refine tk 7 (v:=?vu137) rfl ?hyu137 ?_
   case hyu137=>intro w hSw;(try dsimp only at hSw);go_simp;try with_reducible rfl
   try simp only [Act.put,sA,sZ,sS,gA,gZ,gS]
   refine tk 8 (v:=?vu138) rfl ?hyu138 ?_
   case hyu138=>intro w hSw;(try dsimp only at hSw);go_simp;try with_reducible rfl
   try simp only [Act.put,sA,sZ,sS,gA,gZ,gS]
   refine tk 9 (v:=?vu139) rfl ?hyu139 ?_
   case hyu139=>intro w hSw;(try dsimp only at hSw);go_simp;try with_reducible rfl
   try simp only [Act.put,sA,sZ,sS,gA,gZ,gS]
   refine tk 10 (v:=?vu1310) rfl ?hyu1310 ?_
   case hyu1310=>intro w hSw;(try dsimp only at hSw);go_simp;try with_reducible rfl
   try simp only [Act.put,sA,sZ,sS,gA,gZ,gS]
   refine tk 11 (v:=?vu1311) rfl ?hyu1311 ?_
   case hyu1311=>intro w hSw;(try dsimp only at hSw);go_simp;try with_reducible rfl
   try simp only [Act.put,sA,sZ,sS,gA,gZ,gS]
   refine wpAnyH_ready (rs:=[4,12]) (by kernel_rfl) (by simp) ?_
   refine AllReadyH.cons rfl (fun K hK=>?_) (AllReadyH.cons rfl (fun K hK=>?_) (AllReadyH.nil))
   ·go_simp
    refine hK.out _ _ (by assumption) (fun _=>?_)
    clear hK K
    try simp only [Act.put,sA,sZ,sS,gA,gZ,gS]
    refine r1 12 rfl (fun K hK=>?_)
    go_simp
    have hbA:Below y.heap.size y (y.alloc (.cells #[.int .i64 2,.int .i64 0,.int .i64 vr,.string ⟨#[]⟩] 96)):=(Below.refl y.heap.size y).alloc (Nat.le_refl _) _
    have hl1:=(uh HZ).step hbA
    have d7:=(row9l hl1.row).2.2.2.2.2.2.2.1
    have s1:=(row9l hl1.row).2.2.2.1
    have hcA:=heap_alloc_new y (.cells #[.int .i64 2,.int .i64 0,.int .i64 vr,.string ⟨#[]⟩] 96)
    have HZ1:=hide (And.intro hl1 hcA)
    clear hbA hl1 hcA
    refine hK.out _ _ (s1) (fun _=>?_)
    clear hK K
    try simp only [Act.put,sA,sZ,sS,gA,gZ,gS]
    refine r1 13 rfl (fun K hK=>?_)
    refine step_append_nb (y.alloc (.cells #[.int .i64 2,.int .i64 0,.int .i64 vr,.string ⟨#[]⟩] 96)) (by rfl) _ _ (by rfl) w0.heap.size (.slice none 0 0) [] 0 rfl 2 0 vr ⟨#[]⟩ y.heap.size (by rfl) (by rfl) (World.ownsRow_nil _ _ _ _) (uh HZ1).2 (by omega) (uh HZ1).1.lo.size ?_
    rintro v4 z2 ho4 hg4
    obtain ⟨a4,c4',rfl⟩:=own_form ho4
    have hB2:=((uh HZ1).1.step ⟨hg4.os,hg4.tape,hg4.output,hg4.size,fun k hk=>hg4.block k hk (by simp [Value.ownBlock])⟩).row
    have g7:z2.cell? ⟨B,7,none⟩=some (.slice none 0 0):=(row9l hB2).2.2.2.2.2.2.2.1
    have f7:z2.frozen? ⟨B,7,none⟩=false:=frz hB2 7
    have s3:=(row9l hB2).2.2.2.1
    have hF:=(uh HZ1).1.putF (F':=[⟨2,0,vr,⟨#[]⟩⟩]) hg4 ho4
    have s4:=(row9l hF.row).2.2.2.1
    have HF:=hide hF
    clear hB2 ho4 hg4 hF
    refine hK.out _ _ (s3) (fun _=>?_)
    clear hK K
    try simp only [Act.put,sA,sZ,sS,gA,gZ,gS]
    refine tk 14 (v:=?vu1114) rfl ?hyu1114 ?_
    case hyu1114=>intro w hSw;(try dsimp only at hSw);go_simp;try with_reducible rfl
    try simp only [Act.put,sA,sZ,sS,gA,gZ,gS]
    refine tk 15 (v:=?vu1115) rfl ?hyu1115 ?_
    case hyu1115=>intro w hSw;(try dsimp only at hSw);go_simp;try with_reducible rfl
    try simp only [Act.put,sA,sZ,sS,gA,gZ,gS]
    refine r1 16 rfl (fun K hK=>?_)
    go_simp
    refine hK.out _ _ (s4) (fun _=>?_)
    clear hK K
    try simp only [Act.put,sA,sZ,sS,gA,gZ,gS]
    try simp only [Act.put,List.getElem_toArray,List.getElem_cons_zero,List.getElem_cons_succ]
    refine wpAnyH_done (by kernel_rfl) ?_ _
    go_wp2_with fail
    exact Great.bodyPost_end0 rfl rfl ⟨rfl,_,_,by rw [uh HRR];exact uh HF⟩
   ·go_simp
    have hbA:Below y.heap.size y (y.alloc (.cells #[.int .i64 2,.int .i64 0,.int .i64 vr,.string ⟨#[]⟩] 96)):=(Below.refl y.heap.size y).alloc (Nat.le_refl _) _
    have hl1:=(uh HZ).step hbA
    have d7:=(row9l hl1.row).2.2.2.2.2.2.2.1
    have s1:=(row9l hl1.row).2.2.2.1
    have hcA:=heap_alloc_new y (.cells #[.int .i64 2,.int .i64 0,.int .i64 vr,.string ⟨#[]⟩] 96)
    have HZ1:=hide (And.intro hl1 hcA)
    clear hbA hl1 hcA
    refine hK.out _ _ (s1) (fun _=>?_)
    clear hK K
    try simp only [Act.put,sA,sZ,sS,gA,gZ,gS]
    refine r1 4 rfl (fun K hK=>?_)
    go_simp
    refine hK.out _ _ (s1) (fun _=>?_)
    clear hK K
    try simp only [Act.put,sA,sZ,sS,gA,gZ,gS]
    refine r1 13 rfl (fun K hK=>?_)
    refine step_append_nb (y.alloc (.cells #[.int .i64 2,.int .i64 0,.int .i64 vr,.string ⟨#[]⟩] 96)) (by rfl) _ _ (by rfl) w0.heap.size (.slice none 0 0) [] 0 rfl 2 0 vr ⟨#[]⟩ y.heap.size (by rfl) (by rfl) (World.ownsRow_nil _ _ _ _) (uh HZ1).2 (by omega) (uh HZ1).1.lo.size ?_
    rintro v4 z2 ho4 hg4
    obtain ⟨a4,c4',rfl⟩:=own_form ho4
    have hB2:=((uh HZ1).1.step ⟨hg4.os,hg4.tape,hg4.output,hg4.size,fun k hk=>hg4.block k hk (by simp [Value.ownBlock])⟩).row
    have g7:z2.cell? ⟨B,7,none⟩=some (.slice none 0 0):=(row9l hB2).2.2.2.2.2.2.2.1
    have f7:z2.frozen? ⟨B,7,none⟩=false:=frz hB2 7
    have s3:=(row9l hB2).2.2.2.1
    have hF:=(uh HZ1).1.putF (F':=[⟨2,0,vr,⟨#[]⟩⟩]) hg4 ho4
    have s4:=(row9l hF.row).2.2.2.1
    have HF:=hide hF
    clear hB2 ho4 hg4 hF
    refine hK.out _ _ (s3) (fun _=>?_)
    clear hK K
    try simp only [Act.put,sA,sZ,sS,gA,gZ,gS]
    refine tk 14 (v:=?vu1214) rfl ?hyu1214 ?_
    case hyu1214=>intro w hSw;(try dsimp only at hSw);go_simp;try with_reducible rfl
    try simp only [Act.put,sA,sZ,sS,gA,gZ,gS]
    refine tk 15 (v:=?vu1215) rfl ?hyu1215 ?_
    case hyu1215=>intro w hSw;(try dsimp only at hSw);go_simp;try with_reducible rfl
    try simp only [Act.put,sA,sZ,sS,gA,gZ,gS]
    refine r1 16 rfl (fun K hK=>?_)
    go_simp
    refine hK.out _ _ (s4) (fun _=>?_)
    clear hK K
    try simp only [Act.put,sA,sZ,sS,gA,gZ,gS]
    try simp only [Act.put,List.getElem_toArray,List.getElem_cons_zero,List.getElem_cons_succ]
    refine wpAnyH_done (by kernel_rfl) ?_ _
    go_wp2_with fail
    exact Great.bodyPost_end0 rfl rfl ⟨rfl,_,_,by rw [uh HRR];exact uh HF⟩
end
end Go.Proofs.YtkcghhkkepndnaaGreatDoor
