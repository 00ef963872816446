/- The model: what one number of the script does; what lay in memory stands but for the world; no condition but those named. The model: an end sends what it may, and its line's first frame is doubled; what lay in memory stands but for the world; no condition but those named. -/
import Derived.Test.YtkcghhkkepndnaaGreatDoorS36
import Derived.Test.YtkcghhkkepndnaaGreatDoorS39
import Derived.Test.YtkcghhkkepndnaaGreatDoorS29
import Derived.Test.YtkcghhkkepndnaaGreatDoorShW
namespace Go.Proofs.YtkcghhkkepndnaaGreatDoor
open Go.RowKit
abbrev Lft (base Sa Sb Ww:Nat) (K:Nat→Prop) (W:World) (m':Nw) (e:Ending) (W':World):Prop:=e=.returned (.tuple #[])∧∃ K',MS base Sa Sb Ww m' W' K'∧Fz (E3 Sa Sb Ww) K K' W W'
theorem evN_am {m:Nw} {n r:Nat} (h:n % 8=r):evN m (n:Int)=(if r=0 then sendNextN m else if r=1 then cmB m else if r=2 then ⟨lnN m.a m.a.ln.tail,m.b,m.bad,m.un⟩ else if r=3 then ⟨lnN m.a (dbl m.a.ln),m.b,m.bad,m.un⟩ else if r=4 then spoilN m ((n / 8:Nat):Int) else if r=5 then cmA m else if r=6 then ⟨m.a,lnN m.b m.b.ln.tail,m.bad,m.un⟩ else sendAgainN m):=by
 have h8:(n:Int) % 8=(r:Int):=by omega
 unfold evN
 rw [if_neg (by omega),h8]
 have e8:(n:Int) / 8=((n / 8:Nat):Int):=by omega
 rw [e8]
 have hr:r<8:=by omega
 have:r=0∨r=1∨r=2∨r=3∨r=4∨r=5∨r=6∨r=7:=by omega
 rcases this with rfl | rfl | rfl | rfl | rfl | rfl | rfl | rfl<;>rfl
section
variable {base:Nat} {W:World} {Sa Sb Ww:Nat} {m:Nw} {K:Nat→Prop} {na nb c:Nat}
set_option maxHeartbeats 4000000 in
set_option maxRecDepth 100000 in
theorem sEvLow (h:MS base Sa Sb Ww m W K) (e:Int) (he:e<0) :
  Calls Tryz.prog 31 #[.pointer (some ⟨Ww,0,none⟩),.int .i64 e] W (Lft base Sa Sb Ww K W (evN m e)):=by
 have hs:evN m e=m:=if_pos he
 rw [hs]
 have H:=hide h
 clear h hs
 go_enter Tryz.func31,Tryz.ntmps31
 go_wp2_with fail
 refine bodyPost_ret (results_none rfl _ _ _) rfl ?_
 exact ⟨rfl,K,uh H,Fz.refl _ _ _⟩
set_option maxHeartbeats 4000000 in
set_option maxRecDepth 100000 in
theorem sEv1 (h:MS base Sa Sb Ww m W K) (ok:NwOk na nb c m) (hnb:nb≤990000) (hcc:c≤100000000) (n:Nat) (hn:n % 8=1) :
  Calls Tryz.prog 31 #[.pointer (some ⟨Ww,0,none⟩),.int .i64 (n:Int)] W (Lft base Sa Sb Ww K W (evN m (n:Int))):=by
 rw [evN_am hn,if_neg (by decide),if_pos rfl]
 have C:=hide (sCome_B h ok hnb hcc)
 obtain ⟨qa,la,qb,lb,gv,h,rfl⟩:=h
 obtain ⟨c0,c1,_,_,_⟩:=h.cells
 have d0:¬ ((n:Int)<0):=by omega
 have d8:(n:Int) % 8=1:=by omega
 clear h ok hn
 go_enter Tryz.func31,Tryz.ntmps31
 go_wp2_with fail
 refine (uh C).mono ?_
 rintro e w1 ⟨rfl,h1⟩
 have H1:=hide h1
 clear h1
 go_wp2_with fail
 refine bodyPost_end (results_none rfl _ _ _) rfl ?_
 exact ⟨rfl,uh H1⟩
set_option maxHeartbeats 4000000 in
set_option maxRecDepth 100000 in
theorem sEv5 (h:MS base Sa Sb Ww m W K) (ok:NwOk na nb c m) (hcc:c≤100000000) (n:Nat) (hn:n % 8=5) :
  Calls Tryz.prog 31 #[.pointer (some ⟨Ww,0,none⟩),.int .i64 (n:Int)] W (Lft base Sa Sb Ww K W (evN m (n:Int))):=by
 rw [evN_am hn,if_neg (by decide),if_neg (by decide),if_neg (by decide),if_neg (by decide),if_neg (by decide),if_pos rfl]
 have C:=hide (sCome_A h ok hcc)
 obtain ⟨qa,la,qb,lb,gv,h,rfl⟩:=h
 obtain ⟨c0,c1,_,_,_⟩:=h.cells
 have d0:¬ ((n:Int)<0):=by omega
 have d8:(n:Int) % 8=5:=by omega
 clear h ok hn
 go_enter Tryz.func31,Tryz.ntmps31
 go_wp2_with fail
 refine (uh C).mono ?_
 rintro e w1 ⟨rfl,h1⟩
 have H1:=hide h1
 clear h1
 go_wp2_with fail
 refine bodyPost_end (results_none rfl _ _ _) rfl ?_
 exact ⟨rfl,uh H1⟩
set_option maxHeartbeats 4000000 in
set_option maxRecDepth 100000 in
theorem sEv4 (h:MS base Sa Sb Ww m W K) (ok:NwOk na nb c m) (n:Nat) (hl:(n:Int)≤9223372036854775807) (hn:n % 8=4) :
  Calls Tryz.prog 31 #[.pointer (some ⟨Ww,0,none⟩),.int .i64 (n:Int)] W (Lft base Sa Sb Ww K W (evN m (n:Int))):=by
 rw [evN_am hn,if_neg (by decide),if_neg (by decide),if_neg (by decide),if_neg (by decide),if_pos rfl]
 have hj:((n / 8:Nat):Int)≤9223372036854775807:=by omega
 have C:=hide (sTurn h ok (n / 8) hj)
 obtain ⟨qa,la,qb,lb,gv,h,rfl⟩:=h
 obtain ⟨c0,c1,_,_,_⟩:=h.cells
 have d0:¬ ((n:Int)<0):=by omega
 have d8:(n:Int) % 8=4:=by omega
 clear h ok hn
 go_enter Tryz.func31,Tryz.ntmps31
 go_wp2_with fail
 refine (uh C).mono ?_
 rintro e w1 ⟨rfl,h1⟩
 have H1:=hide h1
 clear h1
 go_wp2_with fail
 refine bodyPost_end (results_none rfl _ _ _) rfl ?_
 exact ⟨rfl,uh H1⟩
set_option maxHeartbeats 4000000 in
set_option maxRecDepth 100000 in
theorem sEv2 (h:MS base Sa Sb Ww m W K) (n:Nat) (hn:n % 8=2) :
  Calls Tryz.prog 31 #[.pointer (some ⟨Ww,0,none⟩),.int .i64 (n:Int)] W (Lft base Sa Sb Ww K W (evN m (n:Int))):=by
 rw [evN_am hn,if_neg (by decide),if_neg (by decide),if_pos rfl]
 obtain ⟨qa,la,qb,lb,gv,h,rfl⟩:=h
 obtain ⟨c0,c1,_,_,_⟩:=h.cells
 have c12:=h.a.cl.1
 obtain ⟨lad,lac,hla⟩:=h.a.hl.form
 have d0:¬ ((n:Int)<0):=by omega
 have d8:(n:Int) % 8=2:=by omega
 cases e:m.a.ln with
 | nil =>
  have hs:(⟨lnN m.a (List.tail []),m.b,m.bad,m.un⟩:Nw)=m:=by
   have h2:lnN m.a []=m.a:=by rw [← e];rfl
   show (⟨lnN m.a [],m.b,m.bad,m.un⟩:Nw)=m
   rw [h2]
  rw [hs]
  rw [e] at hla
  have c12':W.cell? ⟨Sa,12,none⟩=some (.slice lad 0 lac):=by rw [c12,hla];rfl
  have H:=hide h
  clear h c12 hla hs hn
  go_enter Tryz.func31,Tryz.ntmps31
  go_wp2_with fail
  refine bodyPost_end (results_none rfl _ _ _) rfl ?_
  exact ⟨rfl,_,⟨_,_,_,_,_,uh H,rfl⟩,Fz.refl _ _ _⟩
 | cons f r =>
  have CD:=hide (sDrop h.a e)
  have H:=hide h
  rw [e,List.length_cons] at hla
  rw [hla] at c12
  have d12:(0:Int)<(r.length:Int)+1:=by omega
  rw [List.tail_cons]
  clear h hla hn
  go_enter Tryz.func31,Tryz.ntmps31
  go_wp2_with fail
  refine (uh CD).mono ?_
  rintro e9 w1 ⟨rfl,la1,hs1,hf1⟩
  have H1:=hide ((uh H).setA hs1 hf1 (Or.inl rfl))
  clear hs1 hf1 CD
  go_wp2_with fail
  refine bodyPost_end (results_none rfl _ _ _) rfl ?_
  exact ⟨rfl,_,⟨_,_,_,_,_,(uh H1).1,rfl⟩,(uh H1).2⟩
set_option maxHeartbeats 4000000 in
set_option maxRecDepth 100000 in
theorem sEv6 (h:MS base Sa Sb Ww m W K) (n:Nat) (hn:n % 8=6) :
  Calls Tryz.prog 31 #[.pointer (some ⟨Ww,0,none⟩),.int .i64 (n:Int)] W (Lft base Sa Sb Ww K W (evN m (n:Int))):=by
 rw [evN_am hn,if_neg (by decide),if_neg (by decide),if_neg (by decide),if_neg (by decide),if_neg (by decide),if_neg (by decide),if_pos rfl]
 obtain ⟨qa,la,qb,lb,gv,h,rfl⟩:=h
 obtain ⟨c0,c1,_,_,_⟩:=h.cells
 have c12:=h.b.cl.1
 obtain ⟨lad,lac,hla⟩:=h.b.hl.form
 have d0:¬ ((n:Int)<0):=by omega
 have d8:(n:Int) % 8=6:=by omega
 cases e:m.b.ln with
 | nil =>
  have hs:(⟨m.a,lnN m.b (List.tail []),m.bad,m.un⟩:Nw)=m:=by
   have h2:lnN m.b []=m.b:=by rw [← e];rfl
   show (⟨m.a,lnN m.b [],m.bad,m.un⟩:Nw)=m
   rw [h2]
  rw [hs]
  rw [e] at hla
  have c12':W.cell? ⟨Sb,12,none⟩=some (.slice lad 0 lac):=by rw [c12,hla];rfl
  have H:=hide h
  clear h c12 hla hs hn
  go_enter Tryz.func31,Tryz.ntmps31
  go_wp2_with fail
  refine bodyPost_end (results_none rfl _ _ _) rfl ?_
  exact ⟨rfl,_,⟨_,_,_,_,_,uh H,rfl⟩,Fz.refl _ _ _⟩
 | cons f r =>
  have CD:=hide (sDrop h.b e)
  have H:=hide h
  rw [e,List.length_cons] at hla
  rw [hla] at c12
  have d12:(0:Int)<(r.length:Int)+1:=by omega
  rw [List.tail_cons]
  clear h hla hn
  go_enter Tryz.func31,Tryz.ntmps31
  go_wp2_with fail
  refine (uh CD).mono ?_
  rintro e9 w1 ⟨rfl,la1,hs1,hf1⟩
  have H1:=hide ((uh H).setB hs1 rfl hf1 (Or.inl rfl))
  clear hs1 hf1 CD
  go_wp2_with fail
  refine bodyPost_end (results_none rfl _ _ _) rfl ?_
  exact ⟨rfl,_,⟨_,_,_,_,_,(uh H1).1,rfl⟩,(uh H1).2⟩
set_option maxHeartbeats 4000000 in
set_option maxRecDepth 100000 in
theorem sEv7 (h:MS base Sa Sb Ww m W K) (ok:NwOk na nb c m) (n:Nat) (hn:n % 8=7) :
  Calls Tryz.prog 31 #[.pointer (some ⟨Ww,0,none⟩),.int .i64 (n:Int)] W (Lft base Sa Sb Ww K W (evN m (n:Int))):=by
 rw [evN_am hn,if_neg (by decide),if_neg (by decide),if_neg (by decide),if_neg (by decide),if_neg (by decide),if_neg (by decide),if_neg (by decide)]
 have hok:=ok.a.p
 have hq20:m.a.Q.length≤1048576:=by have:=(lpRt hok).l20;omega
 have hs:sendAgainN m=⟨⟨⟨m.a.p.wi,m.a.p.va,m.a.p.va,m.a.p.vr,m.a.p.ak⟩,m.a.Q,m.a.ln,m.a.df,m.a.gt⟩,m.b,m.bad,m.un⟩:=by
  unfold sendAgainN followN againF
  rw [if_pos hok,if_pos rfl]
  show (⟨⟨_,_,(m.a.ln ++ []).take 40,_,m.a.gt ++ []⟩,_,_,_⟩:Nw)=_
  rw [List.append_nil,List.append_nil,List.take_of_length_le ok.a.l]
 rw [hs]
 obtain ⟨qa,la,qb,lb,gv,h,rfl⟩:=h
 obtain ⟨c0,c1,_,_,_⟩:=h.cells
 obtain ⟨qx,qc,hqv⟩:=h.a.hq.form
 have rg:=h.a.lp
 rw [hqv] at rg
 have CA:=hide (sAgain m.a.p qx qc m.a.Q W hq20 (by have h2:=h.a.hq;rw [hqv] at h2;exact h2))
 have hag:againF m.a.p m.a.Q=⟨⟨m.a.p.wi,m.a.p.va,m.a.p.va,m.a.p.vr,m.a.p.ak⟩,m.a.Q,[],[],0⟩:=if_pos hok
 rw [hag] at CA
 have d0:¬ ((n:Int)<0):=by omega
 have d8:(n:Int) % 8=7:=by omega
 have H:=hide h
 clear h hs hag hn ok hqv hok
 go_enter Tryz.func31,Tryz.ntmps31
 go_wp2_with (refine wpList_load_mid rfl 54 (.tmp 116) rfl Sa 0 rfl (lpC m.a.p (.slice qx m.a.Q.length qc)).toList _ rg Tryz.underlying54 rfl (by exact infoL6) ?_)
 refine (uh CA).mono ?_
 rintro e9 w1 ⟨v,vf,vg,rfl,hq1,_,_,l1,_,_,hb1⟩
 obtain ⟨va,vc,rfl⟩:=hq1.form
 have hM1:=(uh H).step hb1
 have thA:=hM1.a.there 0 6 (by omega)
 have hone:(lpC ⟨m.a.p.wi,m.a.p.va,m.a.p.va,m.a.p.vr,m.a.p.ak⟩ (.slice va m.a.Q.length vc)).all (·.oneCell')=true:=by kernel_rfl
 have hS2:=hM1.a.setP ⟨m.a.p.wi,m.a.p.va,m.a.p.va,m.a.p.vr,m.a.p.ak⟩ (.slice va m.a.Q.length vc) m.a.Q hq1.1 (fun g hg=>⟨Nat.le_trans (uh H).a.bs (l1 g hg),hq1.lt g hg⟩)
 have H2:=hide ((uh H).setA hS2 ((Fz.of_below hb1).trans (Fz.cells Sa (Kv la) w1 0 (lpC ⟨m.a.p.wi,m.a.p.va,m.a.p.va,m.a.p.vr,m.a.p.ak⟩ (.slice va m.a.Q.length vc)).toList)) (Or.inr l1))
 clear hM1 hS2 hq1 l1 hb1 CA rg
 dsimp only at *
 go_wp2_with (first
  | (refine Great.wpList_readTo rfl (some 119) rfl (.agg (lpC ⟨m.a.p.wi,m.a.p.va,m.a.p.va,m.a.p.vr,m.a.p.ak⟩ (.slice va m.a.Q.length vc))) (by rfl) ?_)
  | (refine wpList_store_mid rfl 54 (.tmp 121) (.tmp 119) rfl Sa 0 (lpC ⟨m.a.p.wi,m.a.p.va,m.a.p.va,m.a.p.vr,m.a.p.ak⟩ (.slice va m.a.Q.length vc)) rfl rfl (by exact thA) (by exact infoL6) hone ?_))
 refine bodyPost_end (results_none rfl _ _ _) rfl ?_
 exact ⟨rfl,_,⟨_,_,_,_,_,(uh H2).1,rfl⟩,(uh H2).2⟩
end
end Go.Proofs.YtkcghhkkepndnaaGreatDoor
namespace Go.Proofs.YtkcghhkkepndnaaGreatDoor
open Go.RowKit
theorem wpList_store_rowl {ops:Array Oper} {rest:List Oper} {op:Oper} {a:Act} {w:World} {Q:Exit→Act→World→Prop} (hgd:op.guard=none) (ty:TypeId) (x y:Operand) (ho:op.op=.store ty x y)
  (g:Nat) (cells:Array Value) (hx:a.eval x=.pointer (some ⟨g,0,none⟩)) (hy:a.eval y=.agg cells)
  (t:TypeId) (old:Array Value) (hg:w.heap[g]?=some (.cells old t (0,0))) (hi:(Tryz.prog.info? ty).map (·.size)=some cells.size)
  (hold:old.size=cells.size) (h1:cells.all (·.oneCell')=true)
  (h:wpList Tryz.prog ops Q rest (a.put op.dst undef) (w.setRow g cells)):wpList Tryz.prog ops Q (op :: rest) a w :=
 wpList_plain hgd fun _ hK=>wp_store_row ty x y ho g cells hx hy t old hg hi hold h1 (hK _ _ h)
section
variable {base:Nat} {W:World} {Sa Sb Ww:Nat} {m:Nw} {K:Nat→Prop} {na nb c:Nat}
set_option linter.unusedSimpArgs false in
set_option maxHeartbeats 4000000 in
set_option maxRecDepth 100000 in
theorem sEv0 (h:MS base Sa Sb Ww m W K) (ok:NwOk na nb c m) (n:Nat) (hn:n % 8=0) :
  Calls Tryz.prog 31 #[.pointer (some ⟨Ww,0,none⟩),.int .i64 (n:Int)] W (Lft base Sa Sb Ww K W (evN m (n:Int))):=by
 rw [evN_am hn,if_pos rfl]
 have hok:=ok.a.p
 have hq20:m.a.Q.length≤1048576:=by have:=(lpRt hok).l20;omega
 have hfine:=fine_next m.a.p m.a.Q
 obtain ⟨o,ho⟩:∃ o,nextF m.a.p m.a.Q=o:=⟨_,rfl⟩
 have hcd:o.cd=0∧o.gt=[]:=by
  rw [← ho]
  unfold nextF
  rw [if_pos hok]
  exact ⟨rfl,rfl⟩
 have hs:sendNextN m=⟨⟨o.p,o.Q,(m.a.ln ++ o.sn.map frameOfF).take 40,m.a.df,m.a.gt⟩,m.b,m.bad,m.un⟩:=by
  unfold sendNextN followN
  rw [ho,if_pos hcd.1,hcd.2,List.append_nil]
 rw [hs]
 obtain ⟨qa,la,qb,lb,gv,h,rfl⟩:=h
 obtain ⟨c0,c1,_,_,_⟩:=h.cells
 obtain ⟨qx,qc,hqv⟩:=h.a.hq.form
 have rg:=h.a.lp
 rw [hqv] at rg
 have CN:=hide (sNextL m.a.p qx qc m.a.Q W hq20 (by have h2:=h.a.hq;rw [hqv] at h2;exact h2))
 rw [ho] at CN hfine
 have d0:¬ ((n:Int)<0):=by omega
 have d8:(n:Int) % 8=0:=by omega
 have H:=hide h
 have HF:=hide hfine
 clear h hs hn ok hqv hok ho hcd hfine
 go_enter Tryz.func31,Tryz.ntmps31
 go_wp2_with (refine wpList_load_mid rfl 54 (.tmp 18) rfl Sa 0 rfl (lpC m.a.p (.slice qx m.a.Q.length qc)).toList _ rg Tryz.underlying54 rfl (by exact infoL6) ?_)
 refine (uh CN).mono ?_
 rintro e9 w1 ⟨v,vf,vg,rfl,hq1,hs1,hg1,l1,_,_,hb1⟩
 obtain ⟨va,vc,rfl⟩:=hq1.form
 obtain ⟨vfa,vfc,rfl⟩:=hs1.form
 obtain ⟨vga,vgc,rfl⟩:=hg1.form
 have hr8:=heap_alloc_new w1 (.cells #[.int .i64 0,.int .i64 0,.int .i64 0,.int .i64 0,.slice none 0 0,.bool false,.slice none 0 0,.slice none 0 0,.int .i64 0] 79)
 have hall:(loC o.p (.slice va o.Q.length vc) (.slice vfa o.sn.length vfc) (.slice vga o.gt.length vgc) o.cd).all (·.oneCell')=true:=by kernel_rfl
 have hN:=heap_alloc_new w1 (.cells (loC o.p (.slice va o.Q.length vc) (.slice vfa o.sn.length vfc) (.slice vga o.gt.length vgc) o.cd) 79)
 have hb2:Below w1.heap.size w1 (w1.alloc (.cells (loC o.p (.slice va o.Q.length vc) (.slice vfa o.sn.length vfc) (.slice vga o.gt.length vgc) o.cd) 79)):=(Below.refl _ _).alloc (Nat.le_refl _) _
 have HN:=hide (And.intro hN (And.intro (hb1.trans (hb2.mono hb1.size)) (And.intro (hq1.below hb2) (And.intro (hs1.other (fun g _ _ e=>hb2.block g (Array.getElem?_eq_some_iff.1 e).1)) l1))))
 clear hN hb2 hq1 hs1 hg1 l1 hb1 CN rg
 go_upto_region 5 with (refine wpList_store_rowl rfl 79 (.tmp 5) (.tmp 20) rfl w1.heap.size (loC o.p (.slice va o.Q.length vc) (.slice vfa o.sn.length vfc) (.slice vga o.gt.length vgc) o.cd) rfl rfl 79 _ hr8 infoL9 rfl hall ?_)
 rw [World.setRow_alloc_new]
 clear hr8 hall
 generalize w1.heap.size=N at HN ⊢
 generalize w1.alloc (.cells (loC o.p (.slice va o.Q.length vc) (.slice vfa o.sn.length vfc) (.slice vga o.gt.length vgc) o.cd) 79)=w2 at HN ⊢
 obtain ⟨hN,hb2,hq2,hs2,l1⟩:=uh HN
 have hM2:=(uh H).step hb2
 have rgL:w2.rangeAt N 0 (lpC o.p (.slice va o.Q.length vc)).toList:=by
  have h:w2.heap[N]?=some (.cells ([] ++ (lpC o.p (.slice va o.Q.length vc)).toList ++ [Value.slice vfa o.sn.length vfc,Value.slice vga o.gt.length vgc,Value.int .i64 o.cd]).toArray 79):=hN
  exact range_blk h
 have thA:=hM2.a.there 0 6 (by omega)
 have hone:(lpC o.p (.slice va o.Q.length vc)).all (·.oneCell')=true:=by kernel_rfl
 have hS3:=hM2.a.setP o.p (.slice va o.Q.length vc) o.Q hq2.1 (fun g hg=>⟨Nat.le_trans (uh H).a.bs (l1 g hg),hq2.lt g hg⟩)
 obtain ⟨hM3,hF3⟩:=(uh H).setA hS3 ((Fz.of_below hb2).trans (Fz.cells Sa (Kv la) w2 0 (lpC o.p (.slice va o.Q.length vc)).toList)) (Or.inr l1)
 have ot3:∀ k,k≠Sa→(w2.setCells Sa 0 (lpC o.p (.slice va o.Q.length vc)).toList).heap[k]?=w2.heap[k]?:=fun k hk=>set_other3 hk _ _ _
 have hN3:=(ot3 N (typ_ne hN hM2.a.row (by decide))).trans hN
 have hs3:=hs2.other (fun g cur _ hg=>ot3 g (typ_ne hg hM2.a.row (by decide)))
 have H3:=hide (And.intro hM3 (And.intro hF3 (And.intro hN3 hs3)))
 clear hM3 hF3 hN3 hs3 ot3 hS3 hM2 hN hb2 hq2 hs2 l1 HN
 go_upto_region 6 with (first
  | (refine wpList_load_mid rfl 54 (.tmp 22) rfl N 0 rfl (lpC o.p (.slice va o.Q.length vc)).toList _ (by exact rgL) Tryz.underlying54 rfl (by exact infoL6) ?_)
  | (refine wpList_store_mid rfl 54 (.tmp 25) (.tmp 23) rfl Sa 0 (lpC o.p (.slice va o.Q.length vc)) rfl rfl (by exact thA) (by exact infoL6) hone ?_))
 generalize w2.setCells Sa 0 (lpC o.p (.slice va o.Q.length vc)).toList=w3 at H3 ⊢
 have c6:w3.cell? ⟨N,6,none⟩=some (.slice vfa o.sn.length vfc):=by rw [cr (uh H3).2.2.1];rfl
 have CS:=hide (sSend (uh H3).1.a (uh H3).2.2.2 (by have:=(uh HF).s;omega))
 clear rgL thA hone
 go_wp2_with fail
 refine (uh CS).mono ?_
 rintro e9 w4 ⟨rfl,vl4,hS4,hf4⟩
 have H4:=hide ((uh H3).1.setA hS4 hf4 (Or.inl rfl))
 clear hS4 hf4 CS c6
 go_wp2_with fail
 refine bodyPost_end (results_none rfl _ _ _) rfl ?_
 exact ⟨rfl,_,⟨_,_,_,_,_,(uh H4).1,rfl⟩,(uh H3).2.1.trans (uh H4).2⟩
end
end Go.Proofs.YtkcghhkkepndnaaGreatDoor
