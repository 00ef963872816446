/- LapbNext, the program's; what lay in memory stands. Several texts put behind others in a row: it stays where it is, or lies in a new block; what lay in memory stands but for the row that grows; no condition but those named. The draw of a text, an accm and a width: a text of at most 301 bytes; what lay in memory stands. The drawer's bytes once more, said so that a caller may keep memory above the drawer: of the old blocks the drawer's alone is turned; no condition. A drawn number at some limit, and a drawn map, said so that a caller may keep memory above the drawer; no condition. -/
import Derived.Test.YtkcghhkkepndnaaGreatDoorS13
import Derived.Test.YtkcghhkkepndnaaGreatDoorS01
import Derived.Test.YtkcghhkkepndnaaGreatDoorS00
import Derived.ArgAppend
import Derived.Test.YtkcghhkkepndnaaGreatDoorS19
import Derived.Test.YtkcghhkkepndnaaGreatDoorS15
import Derived.Test.YtkcghhkkepndnaaGreatDoorShW
namespace Go.Proofs.YtkcghhkkepndnaaGreatDoor
open Go.RowKit
def nextM (p:Lp) (L:List ByteArray):Nat:=min (p.wi.toNat - sentN p) (L.length - sentN p)
def nextF (p:Lp) (L:List ByteArray):LO:=if lpOk p L=true then ⟨⟨p.wi,(p.vs+(nextM p L:Nat)) % 8,p.va,p.vr,p.ak⟩,L,outs p.vs p.vr (L.drop (sentN p)) (nextM p L),[],0⟩ else loErr 1
theorem fill_of {W1:World} {B M:Nat} {p:Lp} {L:List ByteArray} {vq:Value} {q:World} (hL:Lw W1 B M p (L.take (sentN p)) (L.drop (sentN p)) [] [] vq (.slice none 0 0) (.slice none 0 0) q) (hr:LpRt p L) :
  Calls Tryz.prog 88 #[.pointer (some ⟨B,0,none⟩)] q fun e q'=>e=.returned (.tuple #[])∧∃ vq' vf',Lw W1 B M ⟨p.wi,(p.vs+(nextM p L:Nat)) % 8,p.va,p.vr,p.ak⟩ (L.take (sentN p) ++ (L.drop (sentN p)).take (nextM p L)) ((L.drop (sentN p)).drop (nextM p L)) (outs p.vs p.vr (L.drop (sentN p)) (nextM p L)) [] vq' vf' (.slice none 0 0) q':=by
 have hk:=sentN_eq (p:=p)
 have h1:=hr.fw
 have h2:=hr.fl
 have h3:=hr.va
 have h4:=hr.vs
 have hl:(L.take (sentN p)).length=sentN p:=by rw [List.length_take];omega
 refine iFill hL hr.va hr.wi (by rw [hl];omega) (by rw [hl];unfold far at hk;omega) (by rw [List.length_drop];have:=hr.l20;omega) (fun t ht=>by have:=hr.z t (List.mem_of_mem_drop ht);omega) (nextM p L) (by rw [hl,List.length_drop];rfl)
theorem out_of {W1:World} {B M:Nat} {p:Lp} {L:List ByteArray} {vq' vf':Value} {q:World} (hL:Lw W1 B M ⟨p.wi,(p.vs+(nextM p L:Nat)) % 8,p.va,p.vr,p.ak⟩ (L.take (sentN p) ++ (L.drop (sentN p)).take (nextM p L)) ((L.drop (sentN p)).drop (nextM p L)) (outs p.vs p.vr (L.drop (sentN p)) (nextM p L)) [] vq' vf' (.slice none 0 0) q) (hr:LpRt p L) :
  Calls Tryz.prog 61 #[.pointer (some ⟨B,0,none⟩)] q fun e q'=>AnsL W1 ⟨⟨p.wi,(p.vs+(nextM p L:Nat)) % 8,p.va,p.vr,p.ak⟩,L,outs p.vs p.vr (L.drop (sentN p)) (nextM p L),[],0⟩ e q':=by
 have hk:=sentN_eq (p:=p)
 have h1:=hr.fw
 have h2:=hr.wi
 have hm:nextM p L≤p.wi.toNat - sentN p:=Nat.min_le_left _ _
 have e:(L.take (sentN p) ++ (L.drop (sentN p)).take (nextM p L)) ++ (L.drop (sentN p)).drop (nextM p L)=L:=by rw [List.append_assoc,List.take_append_drop,List.take_append_drop]
 have:=iOutL hL hr.va (by rw [List.length_append,List.length_take,List.length_take];omega) (by rw [List.length_drop,List.length_drop];have:=hr.l20;omega)
 rw [e] at this
 exact this
set_option maxHeartbeats 8000000 in
theorem iNextL (p:Lp) (x:Option Addr) (y:Nat) (L:List ByteArray) (w:World) (hl:L.length≤1048576) (h:HoldsS w (.slice x L.length y) L) :
  Calls Tryz.prog 62 #[.agg (lpC p (.slice x L.length y))] w fun e q=>AnsL w (nextF p L) e q:=by
 have C1:=hide fun W (hb:Below w.heap.size w W)=>iLpRight p x y L W hl (h.below hb)
 obtain ⟨hN0,hN1,hbW,hsW⟩:=new2l w (.cells (lpC p (.slice x L.length y)) 54) (.cells #[.int .i64 0,.int .i64 0,.int .i64 0,.int .i64 0,.slice none 0 0,.bool false,.slice none 0 0,.slice none 0 0,.int .i64 0] 79)
 have HS:=hide h
 unfold nextF
 clear h
 cases hk:lpOk p L
 ·rw [if_neg (by decide)]
  rw [hk] at C1
  obtain ⟨wi,vs,va,vr,ak⟩:=p
  unfold lpC at hN0 hN1 hbW hsW C1 ⊢
  dsimp only at *
  have H0:=hide (And.intro hN1 hbW)
  clear hN0 hN1 hbW hsW HS hk
  generalize L.length=n at *
  go_enter Tryz.func62,Tryz.ntmps62
  go_wp2_with fail
  refine (uh C1 _ (uh H0).2).mono ?_
  rintro e w1 ⟨rfl,hb1⟩
  have k0:=(hb1.block (w.heap.size+1) (Array.getElem?_eq_some_iff.1 (uh H0).1).1).trans (uh H0).1
  have hB1:=(uh H0).2.trans (hb1.mono (uh H0).2.size)
  obtain ⟨r0,r1,r2,r3,r4,r5,r6,r7,r8⟩:=row9l k0
  obtain ⟨f0,f1,f2,f3,f4,f5,f6,f7,f8⟩:=frz9l k0
  have HX:=hide (And.intro k0 hB1)
  clear k0 hB1 hb1 H0 C1
  go_wp2
  obtain ⟨k0,hB1⟩:=uh HX
  refine bodyPost_ret (v:=.agg #[.int .i64 0,.int .i64 0,.int .i64 0,.int .i64 0,.slice none 0 0,.bool false,.slice none 0 0,.slice none 0 0,.int .i64 1]) (by simp [results,Tryz.results62,asAddr,loadLo (set9_lo k0 (.int .i64 0) (.int .i64 0) (.int .i64 0) (.int .i64 0) (.slice none 0 0) (.bool false) (.slice none 0 0) (.slice none 0 0) (.int .i64 1))]) rfl ?_
  exact ⟨.slice none 0 0,.slice none 0 0,.slice none 0 0,rfl,World.ownsRow_nil _ _ _ _,World.ownsRow_nil _ _ _ _,World.ownsRow_nil _ _ _ _,(fun g hg=>by cases hg),set9_bl hB1 (by omega) _ _ _ _ _ _ _ _ _⟩
 ·rw [if_pos rfl]
  rw [hk] at C1
  have hr:=lpRt hk
  have hS7:sentN p≤7:=by have:=sentN_eq (p:=p);have:=(far_lt p.vs p.va).2;omega
  have C2:=hide fun W (hb:Below w.heap.size w W)=>iWorkOn p x y L W hr ((uh HS).below hb)
  have HR:=hide hr
  have CF:=hide fun W1 B M vq q hL=>fill_of (W1:=W1) (B:=B) (M:=M) (vq:=vq) (q:=q) hL hr
  have CO0:=hide fun W1 B M vq' vf' q hL=>out_of (W1:=W1) (B:=B) (M:=M) (vq':=vq') (vf':=vf') (q:=q) hL hr
  generalize outs p.vs p.vr (L.drop (sentN p)) (nextM p L)=F at *
  generalize nextM p L=m at *
  obtain ⟨wi,vs,va,vr,ak⟩:=p
  unfold lpC at hN0 hN1 hbW hsW C1 C2 ⊢
  dsimp only at *
  obtain ⟨vz,hvz⟩:∃ vz,(vs+(m:Int)) % 8=vz:=⟨_,rfl⟩
  rw [hvz] at CF CO0 ⊢
  clear hvz
  obtain ⟨nf,hnf⟩:∃ nf,F.length=nf:=⟨_,rfl⟩
  have H0:=hide (And.intro hN0 (And.intro hN1 (And.intro hbW hsW)))
  clear hN0 hN1 hbW hsW HS hk hr
  generalize hn:L.length=n at *
  go_enter Tryz.func62,Tryz.ntmps62
  go_wp2_with fail
  refine (uh C1 _ (uh H0).2.2.1).mono ?_
  rintro e w1 ⟨rfl,hb1⟩
  have k0:=(hb1.block w.heap.size (Array.getElem?_eq_some_iff.1 (uh H0).1).1).trans (uh H0).1
  have kR1:=(hb1.block (w.heap.size+1) (Array.getElem?_eq_some_iff.1 (uh H0).2.1).1).trans (uh H0).2.1
  have hbW:=(uh H0).2.2.1.trans (hb1.mono (uh H0).2.2.1.size)
  have hsW:w.heap.size+2≤w1.heap.size:=by have:=hb1.size;rw [(uh H0).2.2.2] at this;exact this
  obtain ⟨a0,a1,a2,a3,a4,a5⟩:=row6l k0
  have H1:=hide (And.intro kR1 (And.intro hbW hsW))
  clear k0 kR1 hbW hsW hb1 H0 C1
  go_wp2_with fail
  refine (uh C2 _ (uh H1).2.1).mono ?_
  rintro e w2 ⟨rfl,vq,hL2⟩
  have C3:=hide (uh CF _ _ _ _ _ hL2)
  clear C2 a0 a1 a2 a3 a4 a5
  go_wp2_with fail
  refine (uh C3).mono ?_
  rintro e w3 ⟨rfl,vq',vf',hL3⟩
  have CO:=hide (uh CO0 _ _ _ _ _ _ hL3)
  clear C3 hL3
  go_wp2_with fail
  refine (uh CO).mono ?_
  rintro e q5 ⟨v,vf,vg,rfl,o1,o2,o3,hap,lo5⟩
  obtain ⟨va1,vc1,rfl⟩:=own_form o1
  dsimp only at o2
  rw [hnf] at o2
  obtain ⟨va2,vc2,rfl⟩:=own_form o2
  obtain ⟨va3,vc3,rfl⟩:=own_form o3
  have kR:=(lo5.block (w.heap.size+1) (by have:=(uh H1).2.2;omega)).trans (uh H1).1
  obtain ⟨r0,r1,r2,r3,r4,r5,r6,r7,r8⟩:=row9l kR
  obtain ⟨f0,f1,f2,f3,f4,f5,f6,f7,f8⟩:=frz9l kR
  have HX:=hide (And.intro o1 (And.intro o2 (And.intro o3 (And.intro hap (And.intro lo5 kR)))))
  clear o1 o2 o3 hap lo5 kR CO
  dsimp only [loC]
  go_wp2_with fail
  obtain ⟨o1,o2,o3,hap,lo5,kR⟩:=uh HX
  obtain ⟨_,hbW,hsW⟩:=uh H1
  refine bodyPost_ret (v:=.agg (loC ⟨wi,vz,va,vr,ak⟩ (.slice va1 L.length vc1) (.slice va2 nf vc2) (.slice va3 0 vc3) 0)) (by simp [results,Tryz.results62,asAddr,loC,hn,loadLo (set9_lo kR _ _ _ _ _ _ _ _ _)]) rfl ?_
  exact AnsL.put (o:=⟨⟨wi,vz,va,vr,ak⟩,L,F,[],0⟩) o1 (by rw [hnf];exact o2) o3 hap lo5 (by omega) (by omega) hbW _ _ _ _ _ _ _ _ _
theorem run_append_sa {W:World} {base b2:Nat} {v s:Value} {G F:List ByteArray} (ty:TypeId) (hown:W.ownsRow base 9 1 v G.length (scells G)) (hs:W.ownsRow b2 9 1 s F.length (scells F)) (hG:G.length≤1048576) (hF:F.length≤1048576) (hbase:base≤W.heap.size) :
  ∃ v' W',(Builtin.append_ #[23,23] ty #[v,s]).run Tryz.prog W=.ok v' W'∧W'.ownsRow base 9 1 v' (G ++ F).length (scells (G ++ F))∧W.grownBy W' v.ownBlock:=by
 obtain ⟨i,hi,hz,hsz,hby⟩:=sinfo
 rcases hs.2 with ⟨rfl,e⟩ | ⟨g,cap,cur,rfl,_,h3,_,_,_,h7⟩
 ·have eF:F=[]:=List.eq_nil_of_length_eq_zero e
  subst eF
  refine ⟨v,W,?_,by rw [List.append_nil];exact hown,⟨rfl,rfl,rfl,Nat.le_refl _,fun _ _ _=>rfl⟩⟩
  rcases hown.2 with ⟨rfl,_⟩ | ⟨g,cap,cur,rfl,_,_,hnc,_⟩
  ·simp [Builtin.append_,run_underlying Tryz.underlying23,sizeOf,typeInfo,hi,Builtin.lenOf,Builtin.firstCells]
  ·simp [Builtin.append_,run_underlying Tryz.underlying23,sizeOf,typeInfo,hi,Builtin.lenOf,Builtin.firstCells,hnc,storeCells]
 ·obtain ⟨v',W',h1,h2,h4,_⟩:=run_append_own (P:=Tryz.prog) W base 23 ty 9 i _ 1 16 Tryz.underlying23 hi hz hsz hby rfl (by decide) v G.length (scells G) hown ⟨g,0,none⟩ F.length cap (scells F) (by rw [scells_len];omega) (fun j u hu=>by
    rw [Addr.add_lit,Nat.zero_add,cell_of_row _ _ _ _ _ _ h3,← hu,← h7,List.getElem?_take,Array.getElem?_toList]
    have hj:=(List.getElem?_eq_some_iff.1 hu).1
    rw [scells_len] at hj
    rw [if_pos (by omega)]) (fun u hu=>by
    simp only [scells,List.mem_map] at hu
    obtain ⟨x,_,rfl⟩:=hu
    rfl) (by unfold maxLen;omega) (by omega) hbase
  exact ⟨v',W',h1,by rw [List.length_append,scells_append];exact h2,h4⟩
theorem scells_one7 (F:List ByteArray):∀ u ∈ scells F,u.oneCell'=true:=by
 intro u hu
 simp only [scells,List.mem_map] at hu
 obtain ⟨x,_,rfl⟩:=hu
 rfl
theorem run_append_sb {W:World} {base b2:Nat} {v s:Value} {G F:List ByteArray} (ty:TypeId) (hown:W.ownsRow base 9 1 v G.length (scells G)) (hs:W.ownsRow b2 9 1 s F.length (scells F)) (hG:G.length≤1048576) (hF:F.length≤1048576) (hbase:base≤W.heap.size) :
  ∃ v' W',(Builtin.append_ #[23,23] ty #[v,s]).run Tryz.prog W=.ok v' W'∧W'.ownsRow base 9 1 v' (G ++ F).length (scells (G ++ F))∧W.grownBy W' v.ownBlock∧∀ m,v'.ownBlock=some m→v.ownBlock=some m∨W.heap.size≤m:=by
 obtain ⟨i,hi,hz,hsz,hby⟩:=sinfo
 obtain ⟨v',W',h1,h2,h3⟩:=run_append_sa (W:=W) ty hown hs hG hF hbase
 refine ⟨v',W',h1,h2,h3,fun m hm=>?_⟩
 rcases hown.2 with ⟨e,e0⟩ | ⟨g,cap,cur,e,_,hc,hnc,hcm,hcs,htk⟩
 ·
  subst e
  obtain ⟨v2,W2,k1,k2,_⟩:=run_append_sa (W:=W) (base:=W.heap.size) (G:=[]) ty (World.ownsRow_nil _ _ _ _) hs (by simp) hF (Nat.le_refl _)
  rw [h1] at k1
  injection k1 with k1 _
  subst k1
  exact Or.inr (World.ownsRow.lt k2 m hm).1
 ·subst e
  rcases hs.2 with ⟨es,ef⟩ | ⟨g2,cap2,cur2,es,_,s3,_,_,_,s7⟩
  ·subst es
   have hrun:(Builtin.append_ #[23,23] ty #[.slice (some ⟨g,0,none⟩) G.length cap,.slice none 0 0]).run Tryz.prog W=.ok (.slice (some ⟨g,0,none⟩) G.length cap) W:=by
    simp [Builtin.append_,run_underlying Tryz.underlying23,sizeOf,typeInfo,hi,Builtin.lenOf,Builtin.firstCells,hnc,storeCells]
   rw [h1] at hrun
   injection hrun with hrun _
   subst hrun
   exact Or.inl hm
  ·subst es
   have hnews:∀ j u,(scells F)[j]?=some u→W.cell? ((⟨g2,0,none⟩:Addr).add j)=some u:=fun j u hu=>by
    rw [Addr.add_lit,Nat.zero_add,cell_of_row _ _ _ _ _ _ s3,← hu,← s7,List.getElem?_take,Array.getElem?_toList]
    have hj:=(List.getElem?_eq_some_iff.1 hu).1
    rw [scells_len] at hj
    rw [if_pos (by omega)]
   have holds:∀ j u,(scells G)[j]?=some u→W.cell? ((⟨g,0,none⟩:Addr).add j)=some u:=fun j u hu=>by
    rw [Addr.add_lit,Nat.zero_add,cell_of_row _ _ _ _ _ _ hc,← hu,← htk,List.getElem?_take,Array.getElem?_toList]
    have hj:=(List.getElem?_eq_some_iff.1 hu).1
    rw [scells_len] at hj
    rw [if_pos (by omega)]
   by_cases hr:G.length+F.length≤cap
   ·have hcell:∀ j,j<(scells F).length→(W.cell? ⟨g,0+G.length*i.size+j,none⟩).isSome=true∧W.frozen? ⟨g,0+G.length*i.size+j,none⟩=false:=by
     intro j hj
     rw [scells_len] at hj
     have hlt:0+G.length*1+j<cur.size:=by omega
     rw [hsz,cell_of_row _ _ _ _ _ _ hc,Array.getElem?_eq_getElem hlt]
     exact ⟨rfl,frz hc _⟩
    have hrun:=run_append_room_cells (P:=Tryz.prog) W 23 ty 9 i Tryz.underlying23 hi g 0 G.length cap ⟨g2,0,none⟩ F.length cap2 (scells F) (by rw [hsz,scells_len];omega) hnews (scells_one7 F) hr (fun j hj=>(hcell j hj).1) (fun j hj=>(hcell j hj).2)
    rw [h1] at hrun
    injection hrun with hrun _
    subst hrun
    exact Or.inl hm
   ·obtain ⟨v2,W2,k1,r1,r2⟩:=run_append_arg_grows (P:=Tryz.prog) W 23 ty 9 i _ 1 16 Tryz.underlying23 hi hz hsz hby rfl (by decide) ⟨g,0,none⟩ G.length cap (scells G) (by rw [scells_len];omega) holds ⟨g2,0,none⟩ F.length cap2 (scells F) (by rw [scells_len];omega) hnews (by omega) (by unfold maxLen;omega) (by omega)
    rw [h1] at k1
    injection k1 with k1 _
    subst k1
    exact Or.inr (World.ownsRow.lt r1 m hm).1
structure Nigh (B:Nat) (w w':World):Prop where
 os:w'.os=w.os
 tape:w'.tape=w.tape
 output:w'.output=w.output
 size:w.heap.size≤w'.heap.size
 block:∀ g,g<w.heap.size→g≠B→w'.heap[g]?=w.heap[g]?
theorem Nigh.refl (B:Nat) (w:World):Nigh B w w:=⟨rfl,rfl,rfl,Nat.le_refl _,fun _ _ _=>rfl⟩
theorem Nigh.trans {B:Nat} {a b c:World} (h:Nigh B a b) (k:Nigh B b c):Nigh B a c :=
 ⟨k.os.trans h.os,k.tape.trans h.tape,k.output.trans h.output,Nat.le_trans h.size k.size,fun g hg hne=>(k.block g (Nat.lt_of_lt_of_le hg h.size) hne).trans (h.block g hg hne)⟩
theorem Nigh.of_touch {B:Nat} {w w':World} (h:Touch B w w'):Nigh B w w':=⟨h.os,h.tape,h.output,Nat.le_of_eq h.size.symm,fun g _ hne=>h.block g hne⟩
theorem Nigh.of_below {B:Nat} {w w':World} (h:Below w.heap.size w w'):Nigh B w w':=⟨h.os,h.tape,h.output,h.size,fun g hg _=>h.block g hg⟩
theorem Nigh.alloc {B:Nat} {a w:World} (h:Nigh B a w) (o:Obj):Nigh B a (w.alloc o):=h.trans (Nigh.of_below ((Below.refl _ _).alloc (Nat.le_refl _) o))
theorem Nigh.grown {B:Nat} {a w w':World} {row:Option Nat} (h:Nigh B a w) (hg:w.grownBy w' row) (hr:∀ q,row=some q→a.heap.size≤q):Nigh B a w' :=
 ⟨hg.os.trans h.os,hg.tape.trans h.tape,hg.output.trans h.output,Nat.le_trans h.size hg.size,fun g hgl hne=>(hg.block g (Nat.lt_of_lt_of_le hgl h.size) fun e=>by have:=hr g e.symm;omega).trans (h.block g hgl hne)⟩
theorem Nigh.setCell {B:Nat} {a w:World} (h:Nigh B a w) (p:Addr) (v:Value) (hp:a.heap.size≤p.block):Nigh B a (w.setCell p v) :=
 ⟨h.os,h.tape,h.output,by simpa [World.setCell] using h.size,fun g hgl hne=>(Below.heap_setCell _ _ _ _ (by omega)).trans (h.block g hgl hne)⟩
theorem Nigh.below {B:Nat} {w w':World} (h:Nigh B w w') (hB:B≤w.heap.size):Below B w w':=⟨h.os,h.tape,h.output,h.size,fun g hg=>h.block g (by omega) (by omega)⟩
set_option maxHeartbeats 1000000 in
theorem src_bytes_n (w:World) (B:Nat) (sl:Value) (n:Nat) (k:Nat) (hk:k<100000) (hn:n≤maxLen) (hS:Src w B sl n) (hD:Dat w B sl n) :
  Calls Tryz.prog 35 #[.pointer (some ⟨B,0,none⟩),.int .i64 k] w fun e w'=>∃ xs:List Int,e=.returned (.string (strOfNums xs))∧xs.length=k∧Src w' B sl n∧Nigh B w w':=by
 have hBw:=hS.lt
 obtain ⟨ui,hi1,hi2,hi3,hi4⟩:=u8info
 go_enter Tryz.func35,Tryz.ntmps35
 go_wp2_with fail
 go_loopw [5,6] (fun v i wr=>∃ (j:Nat) (xs:List Int),j≤k∧i=.int .i64 j∧xs.length=j∧wr.ownsRow w.heap.size 5 1 v j (xs.map (Value.int .u8))∧Src wr B sl n∧Nigh B w wr) (fun _ i _=>k - (intOf i).toNat)
 case atStart =>
  refine ⟨0,[],Nat.zero_le _,rfl,rfl,?_,hS.same (Below.heap_alloc _ _ _ hBw),(Nigh.refl _ _).alloc _⟩
  exact World.ownsRow_lit w #[] 0 (by omega) (Nat.zero_le _) rfl
 case round =>
  obtain ⟨j,xs,hj,rfl,hxl,hown,hS1,hb1⟩:=hrel
  by_cases hlt:j<k
  ·have hlt':(j:Int)<(k:Int):=by omega
   have c:=src_n wr B sl n 256 (by decide) hn hS1 (hD.below (hb1.below (by omega)))
   have HO:=hide hown
   clear hown
   go_wp2_with fail
   refine c.mono ?_
   rintro e w1 ⟨r,rfl,hr,hS2,ht2⟩
   have hr2:r<256:=by omega
   have ho2:=(own_touch (uh HO) ht2 (by omega)).alloc (.cells #[.int .u8 r] 5)
   have hb2:Nigh B w w1:=hb1.trans (Nigh.of_touch ht2)
   have hsz2:=hb2.size
   have HO2:=hide ho2
   have HS2:=hide hS2
   have HT2:=hide ht2
   clear ho2 hS2 ht2 c hS1
   go_wp2_with (first
    | (at_builtin;refine wpList_append_own _ rfl _ _ 22 rfl w.heap.size 5 ui (.int .u8 0) 1 1 Tryz.underlying22 hi1 hi2 hi3 hi4 rfl (by decide) u5 j (xs.map (Value.int .u8)) rfl (uh HO2) ⟨w1.heap.size,0,none⟩ 1 1 [.int .u8 r] rfl rfl ?news ?ones ?len ?bytes ?base ?_))
   case news =>
    intro i u hu
    match i,hu with
    | 0,hu =>
     have e:(⟨w1.heap.size,0,none⟩:Addr).add 0=⟨w1.heap.size,0,none⟩:=by simp [Addr.add]
     rw [e,World.cell?_alloc_at _ _ _ _ rfl,← hu]
     rfl
   case ones =>
    intro u hu
    simp only [List.mem_singleton] at hu
    subst hu
    rfl
   case len=>unfold maxLen;omega
   case bytes=>omega
   case base=>have:=(uh HS2).lt;simp;omega
   rintro v' w2 hown2 hg2 _
   have hown3:w2.ownsRow w.heap.size 5 1 v' (j+1) ((xs ++ [(r:Int)]).map (Value.int .u8)):=by rw [List.map_append];exact hown2
   have hlt2:=(uh HS2).lt
   have hne:some B≠u5.ownBlock:=fun h=>by
    have:=World.ownsRow.lt (uh HO2) B h.symm
    omega
   have hS3:Src w2 B sl n:=(uh HS2).same (by
    rw [hg2.block B (by simp;omega) hne]
    exact Below.heap_alloc _ _ _ hlt2)
   have hb3:Nigh B w w2:=(hb2.alloc _).grown hg2 (fun q hq=>(World.ownsRow.lt (uh HO2) q hq).1)
   have HO3:=hide hown3
   have HS3:=hide hS3
   clear hown2 hown3 hg2 hne hS3
   go_wp2
   go_roundw
   case rel=>exact ⟨j+1,xs ++ [(r:Int)],by omega,by go_num,by simp [hxl],uh HO3,uh HS3,hb3⟩
   case measure=>simp [intOf];omega
  ·have hlt':¬ ((j:Int)<(k:Int)):=by omega
   have hcv:=conv_own hown
   go_wp2
   go_ret
   exact ⟨xs,rfl,by omega,hS1,hb1⟩
set_option maxHeartbeats 1000000 in
theorem src_edge_n (w:World) (B:Nat) (sl:Value) (n:Nat) (hn:n≤maxLen) (hS:Src w B sl n) (hD:Dat w B sl n) :
  Calls Tryz.prog 23 #[.pointer (some ⟨B,0,none⟩)] w fun e w'=>∃ x:Int,e=.returned (.int .i64 x)∧-9223372036854775808≤x∧x≤9223372036854775807∧Src w' B sl n∧Nigh B w w':=by
 have hBw:=hS.lt
 have HS:=hide hS
 have HD:=hide hD
 clear hS hD
 go_enter Tryz.func23,Tryz.ntmps23
 go_wp2_with fail
 refine (src_n _ B sl n 14 (by decide) hn ((uh HS).same (Below.heap_alloc _ _ _ hBw)) ((uh HD).below ((Below.refl _ _).alloc (by omega) _))).mono ?_
 rintro e w1 ⟨r,rfl,hr,hS1,ht1⟩
 have hr2:r<14:=by omega
 obtain ⟨x,hx,hx1,hx2⟩:=lit_cell ((ht1.block w.heap.size (by omega)).trans (heap_alloc_last w _)) (by decide) r (by simpa using hr2)
 have hb2:Nigh B w w1:=((Nigh.refl _ _).alloc _).trans (Nigh.of_touch ht1)
 clear ht1 hr
 have HS1:=hide hS1
 clear hS1
 go_wp2
 go_ret
 exact ⟨x,rfl,hx1,hx2,uh HS1,hb2⟩

end Go.Proofs.YtkcghhkkepndnaaGreatDoor
