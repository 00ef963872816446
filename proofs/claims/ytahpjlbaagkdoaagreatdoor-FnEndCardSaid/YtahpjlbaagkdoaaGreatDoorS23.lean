/- RepF Reads Reads2 ReadAs ReadOpt BadOpt -/
import Derived.Test.YtahpjlbaagkdoaaGreatDoorS22
set_option maxHeartbeats 2000000
namespace Go.Proofs.YtahpjlbaagkdoaaGreatDoor
open Go.RowKit Go.Proofs.Tryz
theorem specRepNo (m a g:Int) (p c d:Bool) (L:List Op.Opt) (v:Value) (w:World) (hm:L.length≤maxLen) (hL:HoldsO w v L) (h:cfgOk m a g=false∨Op.right L=false) :
  Calls prog 96 #[cfgV m a g p c d,v] w fun e w'=>e=.returned (.agg #[.int .i64 0,.slice none 0 0])∧Below w.heap.size w w':=by
 have C1:=hide fun q=>specCfg m a g p c d q
 obtain ⟨hs,q0,q1,hb0⟩:=start2r w (.cells #[.int .i64 m,.int .i64 a,.int .i64 g,.bool p,.bool c,.bool d] 24) (.cells #[.int .i64 0,.slice none 0 0] 81);have HQ:=hide (And.intro hs (And.intro q0 (And.intro q1 hb0)));have C2:=hide fun q (hq:Below w.heap.size w q)=>specRightAll v L q hm (hL.below hq rfl)
 obtain ⟨ad,cp,rfl⟩:=hL.form;generalize L.length=n at *;clear hs q0 q1 hb0 hL;by_cases hc:cfgOk m a g=true
 ·have hr:Op.right L=false:=by
   rcases h with h | h
   ·rw [hc] at h;cases h
   ·exact h
  rw [hc] at C1;rw [hr] at C2;go_enter func96,ntmps96
  go_wp2_with fail
  refine (uh C1 _).mono ?_;rintro e w1 ⟨rfl,hb1⟩;have hB1:=(uh HQ).2.2.2.trans (hb1.mono (by rw [(uh HQ).1];omega));have hr1:=(hb1.block (w.heap.size+1) (by rw [(uh HQ).1];omega)).trans (uh HQ).2.2.1;have H1:=hide (And.intro hB1 hr1);clear hB1 hr1 hb1 HQ;go_wp2_with fail
  refine (uh C2 _ (uh H1).1).mono ?_;rintro e w2 ⟨rfl,hb2⟩;have hB2:=(uh H1).1.trans (hb2.mono (uh H1).1.size);have hr2:=(hb2.block (w.heap.size+1) (ge.1 (uh H1).2).1).trans (uh H1).2;obtain ⟨c0,c1,f0,f1⟩:=row2x hr2;have H2:=hide (And.intro hB2 hr2);clear hB2 hr2 hb2 H1;go_wp2
  refine bodyPost_ret (v:=.agg #[.int .i64 0,.slice none 0 0]) (by simp [results,results96,asAddr,loadAn (set2_at (uh H2).2 (.int .i64 0) (.slice none 0 0))]) rfl ⟨rfl,?_⟩;exact ((uh H2).1.setCell (p:=⟨w.heap.size+1,0,none⟩) (Nat.le_succ _) _).setCell (p:=⟨w.heap.size+1,1,none⟩) (Nat.le_succ _) _
 ·rw [Bool.not_eq_true] at hc;rw [hc] at C1;clear C2;go_enter func96,ntmps96
  go_wp2_with fail
  refine (uh C1 _).mono ?_;rintro e w1 ⟨rfl,hb1⟩;have hB2:=(uh HQ).2.2.2.trans (hb1.mono (by rw [(uh HQ).1];omega));have hr2:=(hb1.block (w.heap.size+1) (by rw [(uh HQ).1];omega)).trans (uh HQ).2.2.1;obtain ⟨c0,c1,f0,f1⟩:=row2x hr2;have H2:=hide (And.intro hB2 hr2);clear hB2 hr2 hb1 HQ;go_wp2
  refine bodyPost_ret (v:=.agg #[.int .i64 0,.slice none 0 0]) (by simp [results,results96,asAddr,loadAn (set2_at (uh H2).2 (.int .i64 0) (.slice none 0 0))]) rfl ⟨rfl,?_⟩;exact ((uh H2).1.setCell (p:=⟨w.heap.size+1,0,none⟩) (Nat.le_succ _) _).setCell (p:=⟨w.heap.size+1,1,none⟩) (Nat.le_succ _) _
def repF (m a g:Int) (p c d:Bool) (L:List Op.Opt):Int × List Op.Opt :=
 if cfgOk m a g=true∧Op.right L=true then (mx (repV m.toNat a.toNat g.toNat p c d L),fl (mx (repV m.toNat a.toNat g.toNat p c d L)) (repV m.toNat a.toNat g.toNat p c d L)) else (0,[])
theorem repF_len (m a g:Int) (p c d:Bool) (L:List Op.Opt):(repF m a g p c d L).2.length≤20:=by
 unfold repF;split
 ·next h =>
  refine Nat.le_trans (fl_len _ _) ?_;unfold repV;rw [vdl_len];exact Op.right_len h.2
 ·exact Nat.zero_le _
theorem cfg_nat {m a g:Int} (h:cfgOk m a g=true):((m.toNat:Nat):Int)=m∧((a.toNat:Nat):Int)=a∧((g.toNat:Nat):Int)=g:=by
 simp only [cfgOk,within,Bool.and_eq_true,decide_eq_true_eq] at h;omega
theorem implRepAll (m a g:Int) (p c d:Bool) (L:List Op.Opt) (v:Value) (w:World) (hm:L.length≤maxLen) (hL:HoldsO w v L) :
  Calls prog 142 #[cfgV m a g p c d,v] w fun e w'=>∃ ad cp,e=.returned (.agg #[.int .i64 (repF m a g p c d L).1,.slice ad (repF m a g p c d L).2.length cp])∧w'.ownsRow w.heap.size 116 2 (.slice ad (repF m a g p c d L).2.length cp) (repF m a g p c d L).2.length (ocells (repF m a g p c d L).2)∧Below w.heap.size w w':=by
 by_cases h:cfgOk m a g=true∧Op.right L=true
 ·rw [show repF m a g p c d L=(mx (repV m.toNat a.toNat g.toNat p c d L),fl (mx (repV m.toNat a.toNat g.toNat p c d L)) (repV m.toNat a.toNat g.toNat p c d L)) from if_pos h];obtain ⟨e1,e2,e3⟩:=cfg_nat h.1;have:=implRepYes m.toNat a.toNat g.toNat p c d L v w hL (by rw [e1,e2,e3];exact h.1) h.2
  rw [e1,e2,e3] at this;exact this
 ·rw [show repF m a g p c d L=(0,[]) from if_neg h];refine (implRepNo m a g p c d L v w hm hL ?_).mono fun e w' ⟨h1,h2⟩=>⟨none,0,h1,⟨rfl,Or.inl ⟨rfl,rfl⟩⟩,h2⟩
  cases h1:cfgOk m a g
  ·exact Or.inl rfl
  ·right
   cases h2:Op.right L
   ·rfl
   ·exact absurd ⟨h1,h2⟩ h
theorem specRepAll (m a g:Int) (p c d:Bool) (L:List Op.Opt) (v:Value) (w:World) (hm:L.length≤maxLen) (hL:HoldsO w v L) :
  Calls prog 96 #[cfgV m a g p c d,v] w fun e w'=>∃ ad cp,e=.returned (.agg #[.int .i64 (repF m a g p c d L).1,.slice ad (repF m a g p c d L).2.length cp])∧w'.ownsRow w.heap.size 116 2 (.slice ad (repF m a g p c d L).2.length cp) (repF m a g p c d L).2.length (ocells (repF m a g p c d L).2)∧Below w.heap.size w w':=by
 by_cases h:cfgOk m a g=true∧Op.right L=true
 ·rw [show repF m a g p c d L=(mx (repV m.toNat a.toNat g.toNat p c d L),fl (mx (repV m.toNat a.toNat g.toNat p c d L)) (repV m.toNat a.toNat g.toNat p c d L)) from if_pos h];obtain ⟨e1,e2,e3⟩:=cfg_nat h.1;obtain ⟨ad,cp,rfl⟩:=hL.form;have:=specRepYes m.toNat a.toNat g.toNat p c d L ad cp w hL (by rw [e1,e2,e3];exact h.1) h.2
  rw [e1,e2,e3] at this;exact this
 ·rw [show repF m a g p c d L=(0,[]) from if_neg h];refine (specRepNo m a g p c d L v w hm hL ?_).mono fun e w' ⟨h1,h2⟩=>⟨none,0,h1,⟨rfl,Or.inl ⟨rfl,rfl⟩⟩,h2⟩
  cases h1:cfgOk m a g
  ·exact Or.inl rfl
  ·right
   cases h2:Op.right L
   ·rfl
   ·exact absurd ⟨h1,h2⟩ h
structure Off (N R:Nat) (w w':World):Prop where
 os:w'.os=w.os
 tape:w'.tape=w.tape
 output:w'.output=w.output
 size:w.heap.size≤w'.heap.size
 block:∀ k,k<N→k≠R→w'.heap[k]?=w.heap[k]?
theorem Off.refl (N R:Nat) (w:World):Off N R w w:=⟨rfl,rfl,rfl,Nat.le_refl _,fun _ _ _=>rfl⟩
theorem Off.trans {N R:Nat} {a b c:World} (h:Off N R a b) (k:Off N R b c):Off N R a c :=
 ⟨k.os.trans h.os,k.tape.trans h.tape,k.output.trans h.output,Nat.le_trans h.size k.size,fun i hi hn=>(k.block i hi hn).trans (h.block i hi hn)⟩
theorem Nr.off {N R:Nat} {w w':World} (h:Nr R w w') (hN:N≤w.heap.size):Off N R w w':=⟨h.os,h.tape,h.output,h.size,fun k hk hn=>h.block k (by omega) hn⟩
theorem Off.of_below {N R:Nat} {w w':World} (h:Below N w w'):Off N R w w':=⟨h.os,h.tape,h.output,h.size,fun k hk _=>h.block k hk⟩
theorem Off.below {N R n:Nat} {w w':World} (h:Off N R w w') (h1:n≤N) (h2:n≤R):Below n w w':=⟨h.os,h.tape,h.output,h.size,fun k hk=>h.block k (by omega) (by omega)⟩
theorem Off.setR {N R:Nat} {a w:World} (h:Off N R a w) (o:Nat) (v:Value):Off N R a (w.setCell ⟨R,o,none⟩ v):=by
 have hb:=(Below.refl 0 w).setCell (p:=⟨R,o,none⟩) (Nat.zero_le _) v;exact ⟨hb.os.trans h.os,hb.tape.trans h.tape,hb.output.trans h.output,Nat.le_trans h.size hb.size,fun k hk hn=>(Below.heap_setCell w ⟨R,o,none⟩ v k hn).trans (h.block k hk hn)⟩
theorem own_nr {w w':World} {R base:Nat} {e:TypeId} {size:Nat} {v:Value} {n:Nat} {xs:List Value} (h:w.ownsRow base e size v n xs) (hn:Nr R w w') (hb:R<base):w'.ownsRow base e size v n xs :=
 own_same h fun g h1 h2=>hn.block g h2 (by omega)
theorem i64info:∃ i,prog.info? 2=some i∧i.zero=some (.int .i64 0)∧i.size=1∧i.bytes=8:=by
 have h:(prog.info? 2).map (fun i=>(i.zero,i.size,i.bytes))=some (some (.int .i64 0),1,8):=by kernel_rfl
 obtain ⟨i,hi,hzz⟩:=Option.map_eq_some_iff.1 h;simp only [Prod.mk.injEq] at hzz;exact ⟨i,hi,hzz.1,hzz.2.1,hzz.2.2⟩
theorem append_i64 {wr:World} {ops:Array Oper} {rest:List Oper} {o:Oper} {a:Act} {Q:Exit→Act→World→Prop} (hgd:o.guard=none) (s x:Operand)
  (ho:o.op=.call { callee:=.builtin .append,args:=#[s,x],argTypes:=#[71,71] })
  (base:Nat) (v:Value) (n:Nat) (L:List Value) (hs:a.eval s=v) (hown:wr.ownsRow base 2 1 v n L) (c:Int) (hx:a.eval x=.slice (some ⟨wr.heap.size,0,none⟩) 1 1) (hlen:n≤1000) (hbase:base≤wr.heap.size)
  (h:∀ v' w',w'.ownsRow base 2 1 v' (n+1) (L ++ [.int .i64 c])→Below base wr w'→wpList prog ops Q rest (a.put o.dst v') w'):wpList prog ops Q (o :: rest) a (wr.alloc (.cells #[.int .i64 c] 2)):=by
 obtain ⟨ui,hi1,hi2,hi3,hi4⟩:=i64info;refine wpList_append_own _ hgd s x 71 ho base 2 ui (.int .i64 0) 1 8 underlying71 hi1 hi2 hi3 hi4 rfl (by decide) v n L hs (hown.alloc _) ⟨wr.heap.size,0,none⟩ 1 1 [.int .i64 c] hx rfl ?_ ?_ ?_ ?_ ?_ ?_
 ·intro i u hu;rw [Addr.add_lit,Nat.zero_add,World.cell?_alloc_at _ _ _ _ rfl,← hu];simp
 ·intro u hu;simp only [List.mem_singleton] at hu;subst hu;rfl
 ·unfold maxLen;omega
 ·omega
 ·simp;omega
 ·intro v' w2 hown2 hg2 _;exact h v' w2 hown2 (((Below.refl _ _).alloc hbase _).grown hg2 (by simp;omega) (fun q hq=>by exact (World.ownsRow.lt hown q hq).1))
def Rdg (w:World) (R N B:Nat) (p:Value) (ah ms lk:Int) (l:List UInt8) (ss:List Value) (ct:Int) (t:ByteArray):Prop :=
 ∃ v s,w.heap[R]?=some (.cells #[p,.int .i64 ah,.int .i64 ms,.int .i64 lk,v,s,.int .i64 ct,.string t] 213)∧Rest w B v l∧w.ownsRow N 2 1 s ss.length ss
theorem single_any (R N B:Nat) (p:Value) (ah ms lk:Int) (l:List UInt8) (ss:List Value) (ct:Int) (t:ByteArray) (w:World) (hRN:R<N) (hBN:B<N) (hN:N≤w.heap.size) (hne:B≠R) (hss:ss.length≤4)
  (h:Rdg w R N B p ah ms lk l ss ct t) :
  Calls prog 204 #[.pointer (some ⟨R,0,none⟩)] w fun e w'=>Off N R w w'∧((l=[]∧e=.returned (wrong lk))∨∃ c r,l=c :: r∧e=.returned .nilIface∧Rdg w' R N B p ah ms lk r (ss ++ [.int .i64 c.toNat]) ct t):=by
 obtain ⟨v,s,hR,hv,ho⟩:=h;obtain ⟨sa,sc,hsf⟩:=own_form ho;subst hsf;rcases l with _ | ⟨c,r⟩
 ·have C:=hide (num_short R B 1 [] v lk p (.int .i64 ah) (.int .i64 ms) (.slice sa ss.length sc) (.int .i64 ct) (.string t) w (by simp) hv hR);have HR:=hide hR;have HO:=hide ho;clear hR ho hv;go_enter func204,ntmps204
  go_wp2_with fail
  refine (uh C).mono ?_;rintro e w1 ⟨rfl,k,hk⟩;have hn1:Nr R w w1:=by rw [hk];exact (Nr.refl _ _).drewN k
  have hR1:=(show w1.heap[R]?=w.heap[R]? by rw [hk];rfl).trans (uh HR);have hN1:=Nat.le_trans hN hn1.size;obtain ⟨c0,c1,c2,c3,c4,c5,c6,c7,cf⟩:=rg8 hR1;have HR1:=hide hR1;have HO1:=hide (own_nr (uh HO) hn1 hRN);clear C hk cf hR1
  go_wp2_with (first
   | (at_builtin;refine append_i64 rfl _ _ rfl N (.slice sa ss.length sc) ss.length ss rfl (uh HO1) 0 rfl (by omega) hN1 ?_;rintro v2 w2 ho2 hb2;obtain ⟨va,vc,hv2⟩:=own_form ho2;subst hv2;have hR2:=(hb2.block R hRN).trans (uh HR1);obtain ⟨e0,e1,e2,e3,e4,e5,e6,e7,ef⟩:=rg8 hR2;have hf2:=ef 5;clear ef hR2 ho2))
  go_ret
  exact ⟨((hn1.off hN).trans (Off.of_below hb2)).setR 5 _,Or.inl ⟨trivial,rfl⟩⟩
 ·have C:=hide (num_ok R B 1 (c :: r) v p (.int .i64 ah) (.int .i64 ms) (.int .i64 lk) (.slice sa ss.length sc) (.int .i64 ct) (.string t) w (by decide) (by simp) (by omega) hne hv hR);rw [show numOf (List.take 1 (c :: r))=c.toNat by simp [numOf],show List.drop 1 (c :: r)=r from rfl] at C;have HO:=hide ho;clear hR ho hv;go_enter func204,ntmps204
  go_wp2_with fail
  refine (uh C).mono ?_;rintro e w1 ⟨rfl,v1,hR1,hv1,hn1⟩;have hN1:=Nat.le_trans hN hn1.size;obtain ⟨c0,c1,c2,c3,c4,c5,c6,c7,cf⟩:=rg8 hR1;have HR1:=hide hR1;have HV1:=hide hv1;have HO1:=hide (own_nr (uh HO) hn1 hRN);clear C cf hR1 hv1
  go_wp2_with (first
   | (at_builtin;refine append_i64 rfl _ _ rfl N (.slice sa ss.length sc) ss.length ss rfl (uh HO1) c.toNat rfl (by omega) hN1 ?_;rintro v2 w2 ho2 hb2;obtain ⟨va,vc,hv2⟩:=own_form ho2;subst hv2;have hR2:=(hb2.block R hRN).trans (uh HR1);obtain ⟨e0,e1,e2,e3,e4,e5,e6,e7,ef⟩:=rg8 hR2;have hf2:=ef 5;have HO2:=hide ho2;have HR2:=hide hR2;clear ef hR2 ho2))
  go_ret
  refine ⟨((hn1.off hN).trans (Off.of_below hb2)).setR 5 _,Or.inr ⟨c,r,rfl,rfl,v1,.slice va (ss.length+1) vc,?_,?_,?_⟩⟩
  ·rw [heap_setCell_same _ _ 5 _ _ _ (uh HR2)];rfl
  ·exact (uh HV1).same ((Below.heap_setCell w2 ⟨R,5,none⟩ _ B hne).trans (hb2.block B hBN))
  ·rw [List.length_append];exact own_same (uh HO2) fun g hg _=>Below.heap_setCell w2 ⟨R,5,none⟩ _ g (by show g≠R;omega)
def bad (ah ms:Int) (n:Nat) (l:List UInt8):Bool:=decide ((n:Int) - ah<0∨ms<(n:Int) - ah∨(l.length:Int)<(n:Int) - ah)
theorem Rdg.nr {w w':World} {R N B:Nat} {p:Value} {ah ms lk:Int} {l:List UInt8} {ss:List Value} {ct:Int} {t:ByteArray} (h:Rdg w R N B p ah ms lk l ss ct t) (h1:w'.heap[R]?=w.heap[R]?) (h2:Nr R w w') (hRN:R<N) (hB:B<w.heap.size) (hne:B≠R):Rdg w' R N B p ah ms lk l ss ct t:=by
 obtain ⟨v,s,e1,e2,e3⟩:=h;exact ⟨v,s,h1.trans e1,e2.same (h2.block B hB hne),own_nr e3 h2 hRN⟩
theorem expect_any (R N B:Nat) (p:Value) (ah ms lk:Int) (l:List UInt8) (ss:List Value) (ct:Int) (t:ByteArray) (n:Nat) (w:World) (hRN:R<N) (hB:B<w.heap.size) (hne:B≠R) (hn:n≤65535) (ha1:0≤ah) (ha2:ah≤10)
  (h:Rdg w R N B p ah ms lk l ss ct t) :
  Calls prog 213 #[.pointer (some ⟨R,0,none⟩),.int .i64 n] w fun e w'=>e=.returned (if bad ah ms n l=true then wrong 3 else .nilIface)∧Nr R w w'∧Rdg w' R N B p ah ms lk l ss ((n:Int) - ah) t:=by
 obtain ⟨v,s,hR,hv,ho⟩:=h;obtain ⟨off,cap,hvf,hcap,hl⟩:=hv;subst hvf;obtain ⟨c0,c1,c2,c3,c4,c5,c6,c7,cf⟩:=rg8 hR;have hf:=cf 6;have HR:=hide hR;clear cf hR;have HF:Hid (∀ w',w'.heap[R]?=some (.cells #[p,.int .i64 ah,.int .i64 ms,.int .i64 lk,.slice (some ⟨B,off,none⟩) l.length cap,s,.int .i64 ((n:Int) - ah),.string t] 213)→Nr R w w'→Rdg w' R N B p ah ms lk l ss ((n:Int) - ah) t) :=
  hide fun w' q1 q2=>⟨_,s,q1,⟨off,cap,rfl,hcap,hl.same (q2.block B hB hne)⟩,own_nr ho q2 hRN⟩
 have hb:(decide ((n:Int) - ah<0)=true∧bad ah ms n l=true)∨(decide ((n:Int) - ah<0)=false∧decide (ms<(n:Int) - ah)=true∧bad ah ms n l=true)∨(decide ((n:Int) - ah<0)=false∧decide (ms<(n:Int) - ah)=false∧decide ((l.length:Int)<(n:Int) - ah)=true∧bad ah ms n l=true) ∨
   (decide ((n:Int) - ah<0)=false∧decide (ms<(n:Int) - ah)=false∧decide ((l.length:Int)<(n:Int) - ah)=false∧bad ah ms n l=false):=by
  unfold bad;by_cases h1:(n:Int) - ah<0
  ·exact Or.inl ⟨decide_eq_true h1,decide_eq_true (Or.inl h1)⟩
  ·by_cases h2:ms<(n:Int) - ah
   ·exact Or.inr (Or.inl ⟨decide_eq_false h1,decide_eq_true h2,decide_eq_true (Or.inr (Or.inl h2))⟩)
   ·by_cases h3:(l.length:Int)<(n:Int) - ah
    ·exact Or.inr (Or.inr (Or.inl ⟨decide_eq_false h1,decide_eq_false h2,decide_eq_true h3,decide_eq_true (Or.inr (Or.inr h3))⟩))
    ·exact Or.inr (Or.inr (Or.inr ⟨decide_eq_false h1,decide_eq_false h2,decide_eq_false h3,decide_eq_false (by omega)⟩))
 generalize bad ah ms n l=bd at *;obtain ⟨X,hX⟩:∃ X:Int,(n:Int) - ah=X:=⟨_,rfl⟩;have HX:=hide hX;have HB:=hide hb;rw [hX] at HB HF ⊢;clear hb ho hl hX;go_enter func213,ntmps213
 go_wp2_with fail
 refine gen_world (fun q=>q.heap[R]?=some (.cells #[p,.int .i64 ah,.int .i64 ms,.int .i64 lk,.slice (some ⟨B,off,none⟩) l.length cap,s,.int .i64 X,.string t] 213)∧Nr R w q)
  ⟨by rw [heap_setCell_same _ _ 6 _ _ _ (uh HR),uh HX];rfl,(Nr.refl _ _).setCell 6 _⟩ ?_
 clear c0 c1 c2 c3 c4 c5 c6 c7 hf HR HX;rintro q ⟨hR,hnr⟩;obtain ⟨c0,c1,c2,c3,c4,c5,c6,c7,cf⟩:=rg8 hR;have HR:=hide hR;have hb:=uh HB;clear cf hR HB;rcases hb with ⟨e1,rfl⟩ | ⟨e1,e2,rfl⟩ | ⟨e1,e2,e3,rfl⟩ | ⟨e1,e2,e3,rfl⟩
 all_goals
  go_quiet (fail)
  go_wp2
  go_ret
  exact ⟨rfl,hnr.drewN _,uh HF _ (uh HR) (hnr.drewN _)⟩
theorem num_le (l:List UInt8) (h:l.length≤2):numOf l≤65535:=by
 rcases l with _ | ⟨c,_ | ⟨d,_ | ⟨e,r⟩⟩⟩
 ·simp [numOf]
 ·have:=c.toNat_lt
  simp [numOf];omega
 ·have:=c.toNat_lt
  have:=d.toNat_lt
  simp [numOf];omega
 ·simp at h
theorem cnt_any1 (R N B:Nat) (p:Value) (ah ms lk:Int) (l:List UInt8) (ss:List Value) (ct:Int) (t:ByteArray) (w:World) (hRN:R<N) (hB:B<w.heap.size) (hne:B≠R) (ha1:0≤ah) (ha2:ah≤10) (hs:1≤l.length)
  (h:Rdg w R N B p ah ms lk l ss ct t) :
  Calls prog 205 #[.pointer (some ⟨R,0,none⟩)] w fun e w'=>e=.returned (if bad ah ms (numOf (l.take 1)) (l.drop 1)=true then wrong 3 else .nilIface)∧Nr R w w'∧Rdg w' R N B p ah ms lk (l.drop 1) ss ((numOf (l.take 1):Nat) - ah) t:=by
 obtain ⟨v,s,hR,hv,ho⟩:=h;have hM:numOf (l.take 1)≤65535:=num_le _ (by rw [List.length_take];omega);have C:=hide (num_ok R B 1 l v p (.int .i64 ah) (.int .i64 ms) (.int .i64 lk) s (.int .i64 ct) (.string t) w (by decide) hs hB hne hv hR);have HO:=hide ho;generalize numOf (l.take 1)=M at *;generalize l.drop 1=L at *;obtain ⟨V,hV⟩:∃ V,(if bad ah ms M L=true then wrong 3 else .nilIface)=V:=⟨_,rfl⟩;rw [hV];have HV:=hide hV;clear hR ho hv hV;go_enter func205,ntmps205
 go_wp2_with fail
 refine (uh C).mono ?_;rintro e w1 ⟨rfl,v1,hR1,hv1,hn1⟩;have C2:=hide (expect_any R N B p ah ms lk L ss ct t M w1 hRN (Nat.lt_of_lt_of_le hB hn1.size) hne hM ha1 ha2 ⟨v1,s,hR1,hv1,own_nr (uh HO) hn1 hRN⟩);rw [uh HV] at C2;clear C hR1 hv1 HO HV;go_wp2_with fail
 refine (uh C2).mono ?_;rintro e w2 ⟨rfl,hn2,hr2⟩;go_wp2
 go_ret
 exact ⟨rfl,hn1.trans hn2,hr2⟩
theorem cnt_short1 (R N B:Nat) (p:Value) (ah ms lk:Int) (l:List UInt8) (ss:List Value) (ct:Int) (t:ByteArray) (w:World) (hs:l.length<1) (h:Rdg w R N B p ah ms lk l ss ct t) :
  Calls prog 205 #[.pointer (some ⟨R,0,none⟩)] w fun e w'=>e=.returned (wrong lk)∧Nr R w w':=by
 obtain ⟨v,s,hR,hv,ho⟩:=h;have C:=hide (num_short R B 1 l v lk p (.int .i64 ah) (.int .i64 ms) s (.int .i64 ct) (.string t) w hs hv hR);clear hR hv ho;unfold wrong at *;go_enter func205,ntmps205
 go_wp2_with fail
 refine (uh C).mono ?_;rintro e w1 ⟨rfl,k,rfl⟩;clear C;go_wp2
 go_ret
 exact ⟨rfl,(Nr.refl _ _).drewN k⟩
theorem dat_any (R N B:Nat) (p:Value) (ah ms lk:Int) (l:List UInt8) (ss:List Value) (k:Nat) (t:ByteArray) (w:World) (hRN:R<N) (hB:B<w.heap.size) (hne:B≠R) (hk:k≤l.length)
  (h:Rdg w R N B p ah ms lk l ss k t) :
  Calls prog 207 #[.pointer (some ⟨R,0,none⟩)] w fun e w'=>e=.returned .nilIface∧Nr R w w'∧Rdg w' R N B p ah ms lk (l.drop k) ss k (txt (l.take k)):=by
 obtain ⟨v,s,hR,hv,ho⟩:=h;obtain ⟨off,cap,hvf,hcap,hl⟩:=hv;subst hvf;have C:=hide (take_ok R B off l.length cap k p (.int .i64 ah) (.int .i64 ms) (.int .i64 lk) s (.int .i64 k) (.string t) w hk hcap hR);obtain ⟨c0,c1,c2,c3,c4,c5,c6,c7,cf⟩:=rg8 hR;have HO:=hide ho;have HL:=hide hl;clear hR ho hl cf;go_enter func207,ntmps207
 go_wp2_with fail
 refine (uh C).mono ?_;rintro e w1 ⟨rfl,ht⟩;obtain ⟨⟨v1,hR1,hv1,hn1⟩,ht2⟩:=took_rest ht (uh HL) hB hne;have hcv:=conv_lies ht2 (cap:=k);rw [show (l.take k).length=k by rw [List.length_take];omega] at hcv;obtain ⟨e0,e1,e2,e3,e4,e5,e6,e7,ef⟩:=rg8 hR1;have hf:=ef 7;have HR1:=hide hR1;have HV1:=hide hv1;have HO1:=hide (own_nr (uh HO) hn1 hRN);clear c0 c1 c2 c3 c4 c5 c6 c7 ht ht2 ef C hR1 hv1 HO HL;go_wp2
 go_ret
 refine ⟨rfl,hn1.setCell 7 _,v1,s,?_,?_,?_⟩
 ·rw [heap_setCell_same _ _ 7 _ _ _ (uh HR1)];rfl
 ·exact (uh HV1).same (Below.heap_setCell w1 ⟨R,7,none⟩ _ B hne)
 ·exact own_same (uh HO1) fun g hg _=>Below.heap_setCell w1 ⟨R,7,none⟩ _ g (by show g≠R;omega)
theorem alloc_set (w:World) (o o':Obj):({ w.alloc o with heap:=(w.alloc o).heap.setIfInBounds w.heap.size o' }:World)=w.alloc o':=by
 unfold World.alloc;congr 1
 simp only [Array.push];simp [Array.setIfInBounds]
theorem put_new (w:World) (es:Array MapEntry) (c:Nat) (k:Int) (v:Value) (hf:Instr.findNow (.int .i64) (.int .i64 k) es.toList 0=some none) :
  (Instr.mapUpdate 240 (.map (some w.heap.size)) (.int .i64 k) v).run prog (w.alloc (.map es c))=.ok () (w.alloc (.map (es.push { key:=.int .i64 k,val:=v,born:=c }) (c+1))):=by
 have hb:=(MapKept.heap_alloc w (.map es c)).1;unfold Instr.mapUpdate;simp only [Sem.run_bind,run_underlying underlying240,MapKept.run_getObj_map hb,MapKept.run_checkKey underlying242 (d:=.int .i64) (k:=.int .i64 k) (by trivial),MapKept.run_findKey underlying242 hf,Result.andThen];rw [MapKept.run_setObj_map _ hb,alloc_set]
theorem look_rd (w:World) (M:Nat) (es:Array MapEntry) (c i:Nat) (k:Int) (v:Value) (hb:w.heap[M]?=some (.map es c)) (hf:Instr.findNow (.int .i64) (.int .i64 k) es.toList 0=some (some (i,v))) :
  (Instr.lookup 240 (.map (some M)) (.int .i64 k) false).run prog w=.ok v w:=by
 unfold Instr.lookup;simp only [Sem.run_bind,Sem.run_pure,run_underlying underlying240,MapKept.run_getObj_map hb,MapKept.run_checkKey underlying242 (d:=.int .i64) (k:=.int .i64 k) (by trivial),MapKept.run_findKey underlying242 hf,Result.andThen];rfl
abbrev fnVr (f:Nat):Value:=.func (.func f) #[] #[]
def readers:Array MapEntry:=#[{ key:=.int .i64 0,val:=fnVr 204,born:=0 },{ key:=.int .i64 1,val:=fnVr 205,born:=1 },{ key:=.int .i64 2,val:=fnVr 206,born:=2 },{ key:=.int .i64 3,val:=fnVr 207,born:=3 }]
theorem partReaders (w:World):Calls prog 197 #[] w fun e w'=>e=.returned (.map (some w.heap.size))∧w'=w.alloc (.map readers 4):=by
 have hmm:=@run_makeMap prog;have h0:=put_new w #[] 0 0 (fnVr 204) rfl;have h1:=put_new w #[{ key:=.int .i64 0,val:=fnVr 204,born:=0 }] 1 1 (fnVr 205) rfl;have h2:=put_new w #[{ key:=.int .i64 0,val:=fnVr 204,born:=0 },{ key:=.int .i64 1,val:=fnVr 205,born:=1 }] 2 2 (fnVr 206) rfl;have h3:=put_new w #[{ key:=.int .i64 0,val:=fnVr 204,born:=0 },{ key:=.int .i64 1,val:=fnVr 205,born:=1 },{ key:=.int .i64 2,val:=fnVr 206,born:=2 }] 3 3 (fnVr 207) rfl;simp only [List.push_toArray,List.cons_append,List.nil_append] at h0 h1 h2 h3;go_enter func197,ntmps197
 go_wp2
 go_ret
 exact ⟨rfl,rfl⟩
theorem own_lowr {w:World} {base base':Nat} {e:TypeId} {size:Nat} {v:Value} {n:Nat} {xs:List Value} (h:w.ownsRow base e size v n xs) (hb:base'≤base):w.ownsRow base' e size v n xs :=
 ⟨h.1,h.2.imp id fun ⟨g,cap,cur,h1,h2,h3⟩=>⟨g,cap,cur,h1,Nat.le_trans hb h2,h3⟩⟩
structure Ra (w W:World) (M Pb E:Nat) (ks zs:Array Value):Prop where
 hm:W.heap[M]?=some (.map readers 4)
 hp:W.heap[Pb]?=some (.cells ks 242)
 he:W.heap[E]?=some (.cells zs 213)
 below:Below w.heap.size w W
theorem Ra.off {w W W':World} {M Pb E N R:Nat} {ks zs:Array Value} (h:Ra w W M Pb E ks zs) (ho:Off N R W W') (h1:M<N) (h2:Pb<N) (h3:E<N) (n1:M≠R) (n2:Pb≠R) (n3:E≠R) (hw:w.heap.size≤N) (hr:w.heap.size≤R):Ra w W' M Pb E ks zs :=
 ⟨(ho.block M h1 n1).trans h.hm,(ho.block Pb h2 n2).trans h.hp,(ho.block E h3 n3).trans h.he,h.below.trans (ho.below hw hr)⟩
theorem kind_cell {w:World} {Pb:Nat} {ks:Array Value} {T:TypeId} (h:w.heap[Pb]?=some (.cells ks T)) (i:Nat) (x:Value) (hx:ks[i]?=some x):w.cell? ⟨Pb,i,none⟩=some x:=by
 rw [cr h];exact hx
theorem start4 (w:World) (a b c d:Obj):((((w.alloc a).alloc b).alloc c).alloc d).heap.size=w.heap.size+1+1+1+1∧((((w.alloc a).alloc b).alloc c).alloc d).heap[w.heap.size]?=some a∧((((w.alloc a).alloc b).alloc c).alloc d).heap[w.heap.size+1]?=some b ∧
  ((((w.alloc a).alloc b).alloc c).alloc d).heap[w.heap.size+1+1]?=some c∧((((w.alloc a).alloc b).alloc c).alloc d).heap[w.heap.size+1+1+1]?=some d∧Below w.heap.size w ((((w.alloc a).alloc b).alloc c).alloc d):=by
 have s1:(w.alloc a).heap.size=w.heap.size+1:=by simp
 have s2:((w.alloc a).alloc b).heap.size=w.heap.size+1+1:=by simp
 have s3:(((w.alloc a).alloc b).alloc c).heap.size=w.heap.size+1+1+1:=by simp
 have e1:=heap_alloc_new w a;have e2:=heap_alloc_new (w.alloc a) b;have e3:=heap_alloc_new ((w.alloc a).alloc b) c;have e4:=heap_alloc_new (((w.alloc a).alloc b).alloc c) d;rw [s1] at e2;rw [s2] at e3;rw [s3] at e4;refine ⟨by simp,?_,?_,?_,e4,((((Below.refl _ _).alloc (Nat.le_refl _) _).alloc (by omega) _).alloc (by omega) _).alloc (by omega) _⟩
 ·rw [Below.heap_alloc _ _ _ (by omega),Below.heap_alloc _ _ _ (by omega),Below.heap_alloc _ _ _ (by omega)];exact e1
 ·rw [Below.heap_alloc _ _ _ (by omega),Below.heap_alloc _ _ _ (by omega)];exact e2
 ·rw [Below.heap_alloc _ _ _ (by omega)];exact e3
theorem row4v {w:World} {B:Nat} {x0 x1 x2 x3:Value} {T:TypeId} (h:w.heap[B]?=some (.cells #[x0,x1,x2,x3] T)) :
  w.cell? ⟨B,0,none⟩=some x0∧w.cell? ⟨B,1,none⟩=some x1∧w.cell? ⟨B,2,none⟩=some x2∧w.cell? ⟨B,3,none⟩=some x3 :=
 ⟨by rw [cr h];rfl,by rw [cr h];rfl,by rw [cr h];rfl,by rw [cr h];rfl⟩
def zero8:Array Value:=#[.slice none 0 0,.int .i64 0,.int .i64 0,.int .i64 0,.slice none 0 0,.slice none 0 0,.int .i64 0,.string ⟨#[]⟩]
def set8 (W:World) (E:Nat) (x0 x1 x2 x3 x4 x5 x6 x7:Value):World :=
 (((((((W.setCell ⟨E,0,none⟩ x0).setCell ⟨E,1,none⟩ x1).setCell ⟨E,2,none⟩ x2).setCell ⟨E,3,none⟩ x3).setCell ⟨E,4,none⟩ x4).setCell ⟨E,5,none⟩ x5).setCell ⟨E,6,none⟩ x6).setCell ⟨E,7,none⟩ x7
theorem infoR:(prog.info? 213).map (·.size)=some 8:=by kernel_rfl
theorem set8_load {W:World} {E:Nat} {z0 z1 z2 z3 z4 z5 z6 z7:Value} (h:W.heap[E]?=some (.cells #[z0,z1,z2,z3,z4,z5,z6,z7] 213)) (x0 x1 x2 x3 x4 x5 x6 x7:Value) :
  (loadVar 213 ⟨E,0,none⟩).run prog (set8 W E x0 x1 x2 x3 x4 x5 x6 x7)=.ok (.agg #[x0,x1,x2,x3,x4,x5,x6,x7]) (set8 W E x0 x1 x2 x3 x4 x5 x6 x7):=by
 have h0:(W.setCell ⟨E,0,none⟩ x0).heap[E]?=some (.cells #[x0,z1,z2,z3,z4,z5,z6,z7] 213):=by rw [heap_setCell_same _ _ 0 _ _ _ h];rfl
 have h1:((W.setCell ⟨E,0,none⟩ x0).setCell ⟨E,1,none⟩ x1).heap[E]?=some (.cells #[x0,x1,z2,z3,z4,z5,z6,z7] 213):=by rw [heap_setCell_same _ _ 1 _ _ _ h0];rfl
 have h2:(((W.setCell ⟨E,0,none⟩ x0).setCell ⟨E,1,none⟩ x1).setCell ⟨E,2,none⟩ x2).heap[E]?=some (.cells #[x0,x1,x2,z3,z4,z5,z6,z7] 213):=by rw [heap_setCell_same _ _ 2 _ _ _ h1];rfl
 have h3:((((W.setCell ⟨E,0,none⟩ x0).setCell ⟨E,1,none⟩ x1).setCell ⟨E,2,none⟩ x2).setCell ⟨E,3,none⟩ x3).heap[E]?=some (.cells #[x0,x1,x2,x3,z4,z5,z6,z7] 213):=by rw [heap_setCell_same _ _ 3 _ _ _ h2];rfl
 have h4:(((((W.setCell ⟨E,0,none⟩ x0).setCell ⟨E,1,none⟩ x1).setCell ⟨E,2,none⟩ x2).setCell ⟨E,3,none⟩ x3).setCell ⟨E,4,none⟩ x4).heap[E]?=some (.cells #[x0,x1,x2,x3,x4,z5,z6,z7] 213):=by rw [heap_setCell_same _ _ 4 _ _ _ h3];rfl
 have h5:((((((W.setCell ⟨E,0,none⟩ x0).setCell ⟨E,1,none⟩ x1).setCell ⟨E,2,none⟩ x2).setCell ⟨E,3,none⟩ x3).setCell ⟨E,4,none⟩ x4).setCell ⟨E,5,none⟩ x5).heap[E]?=some (.cells #[x0,x1,x2,x3,x4,x5,z6,z7] 213):=by rw [heap_setCell_same _ _ 5 _ _ _ h4];rfl
 have h6:(((((((W.setCell ⟨E,0,none⟩ x0).setCell ⟨E,1,none⟩ x1).setCell ⟨E,2,none⟩ x2).setCell ⟨E,3,none⟩ x3).setCell ⟨E,4,none⟩ x4).setCell ⟨E,5,none⟩ x5).setCell ⟨E,6,none⟩ x6).heap[E]?=some (.cells #[x0,x1,x2,x3,x4,x5,x6,z7] 213):=by rw [heap_setCell_same _ _ 6 _ _ _ h5];rfl
 have h7:((((((((W.setCell ⟨E,0,none⟩ x0).setCell ⟨E,1,none⟩ x1).setCell ⟨E,2,none⟩ x2).setCell ⟨E,3,none⟩ x3).setCell ⟨E,4,none⟩ x4).setCell ⟨E,5,none⟩ x5).setCell ⟨E,6,none⟩ x6).setCell ⟨E,7,none⟩ x7).heap[E]?=some (.cells #[x0,x1,x2,x3,x4,x5,x6,x7] 213):=by rw [heap_setCell_same _ _ 7 _ _ _ h6];rfl
 exact run_loadVar_row (P:=prog) _ _ 213 213 #[x0,x1,x2,x3,x4,x5,x6,x7] (0,0) _ h7 underlying213 rfl infoR
theorem set8_block (W:World) (E:Nat) (x0 x1 x2 x3 x4 x5 x6 x7:Value) (g:Nat) (hg:g≠E):(set8 W E x0 x1 x2 x3 x4 x5 x6 x7).heap[g]?=W.heap[g]?:=by
 unfold set8;rw [Below.heap_setCell _ _ _ g hg,Below.heap_setCell _ _ _ g hg,Below.heap_setCell _ _ _ g hg,Below.heap_setCell _ _ _ g hg,Below.heap_setCell _ _ _ g hg,Below.heap_setCell _ _ _ g hg,Below.heap_setCell _ _ _ g hg,Below.heap_setCell _ _ _ g hg]
theorem set8_below {n:Nat} {w W:World} {E:Nat} (h:Below n w W) (hE:n≤E) (x0 x1 x2 x3 x4 x5 x6 x7:Value):Below n w (set8 W E x0 x1 x2 x3 x4 x5 x6 x7) :=
 (((((((h.setCell (p:=⟨E,0,none⟩) hE _).setCell (p:=⟨E,1,none⟩) hE _).setCell (p:=⟨E,2,none⟩) hE _).setCell (p:=⟨E,3,none⟩) hE _).setCell (p:=⟨E,4,none⟩) hE _).setCell (p:=⟨E,5,none⟩) hE _).setCell (p:=⟨E,6,none⟩) hE _).setCell (p:=⟨E,7,none⟩) hE _
def OptAns (w w':World) (Pb B:Nat) (k:UInt8) (t:ByteArray) (l:List UInt8) (e:Ending):Prop :=
 ∃ off cap sa sc x,e=.returned (.tuple #[.agg #[.slice (some ⟨Pb,0,none⟩) 3 3,.int .i64 2,.int .i64 20,.int .i64 3,.slice (some ⟨B,off,none⟩) l.length cap,.slice sa 1 sc,.int .i64 x,.string t],.nilIface])∧Rest w' B (.slice (some ⟨B,off,none⟩) l.length cap) l∧w'.ownsRow w.heap.size 2 1 (.slice sa 1 sc) 1 [.int .i64 k.toNat]∧Below w.heap.size w w'
theorem opt_good (w:World) (Pb B:Nat) (v:Value) (k n:UInt8) (r:List UInt8) (hP:w.heap[Pb]?=some (.cells #[.int .i64 0,.int .i64 1,.int .i64 3] 242)) (hB:B<w.heap.size) (hv:Rest w B v (k :: n :: r)) (hg:bad 2 20 n.toNat r=false) :
  Calls prog 154 #[.agg #[.slice (some ⟨Pb,0,none⟩) 3 3,.int .i64 2,.int .i64 20,.int .i64 3],v] w fun e w'=>OptAns w w' Pb B k (txt (r.take (n.toNat - 2))) (r.drop (n.toNat - 2)) e:=by
 have hPw:Pb<w.heap.size:=(ge.1 hP).1;obtain ⟨off,cap,hvf,hcap,hl⟩:=hv;subst hvf;have HL:=hide hl;have HP:=hide hP;have HC:=hide hcap;clear hl hP hcap;go_enter func154,ntmps154
 go_wp2_with fail
 refine (partReaders _).mono ?_;rintro e w1 ⟨rfl,hw1⟩
 obtain ⟨hs,q0,q1,q2,q3,hb1⟩:=start4 w (.cells #[.slice (some ⟨Pb,0,none⟩) 3 3,.int .i64 2,.int .i64 20,.int .i64 3] 211) (.cells zero8 213)
  (.cells #[.slice (some ⟨Pb,0,none⟩) 3 3,.int .i64 2,.int .i64 20,.int .i64 3,.slice (some ⟨B,off,none⟩) (r.length+1+1) cap,.slice none 0 0,.int .i64 0,.string ⟨#[]⟩] 213) (.map readers 4)
 unfold zero8 at hs q0 q1 q2 q3 hb1;rw [← hw1] at hs q0 q1 q2 q3 hb1;have hra:Ra w w1 (w.heap.size+1+1+1) Pb (w.heap.size+1) #[.int .i64 0,.int .i64 1,.int .i64 3] zero8:=⟨q3,(hb1.block Pb hPw).trans (uh HP),q1,hb1⟩;have hrd:Rdg w1 (w.heap.size+1+1) (w.heap.size+1+1+1+1) B (.slice (some ⟨Pb,0,none⟩) 3 3) 2 20 3 (k :: n :: r) [] 0 ⟨#[]⟩ :=
  ⟨_,_,q2,⟨off,cap,rfl,uh HC,(uh HL).same (hb1.block B hB)⟩,⟨rfl,Or.inl ⟨rfl,rfl⟩⟩⟩
 obtain ⟨c0,c1,c2,c3⟩:=row4v q0;have HRA:=hide hra;have HRD:=hide hrd;have l0:=look_rd w1 (w.heap.size+1+1+1) readers 4 0 0 (fnVr 204) hra.hm rfl;have k0:=kind_cell hra.hp 0 _ rfl;clear hra hrd hw1 q0 q1 q2 q3 HL HP HC;go_wp2_with fail
 refine wp_loop_rounds 4 ?_;rw [rounds_succ];go_wp2_with fail
 refine (single_any _ _ B _ 2 20 3 (k :: n :: r) [] 0 ⟨#[]⟩ w1 (by omega) (by omega) (by omega) (by omega) (by simp) (uh HRD)).mono ?_;rintro e w2 ⟨hof,⟨hn,_⟩ | ⟨c,r',hc,rfl,hrd⟩⟩
 ·cases hn
 obtain ⟨rfl,rfl⟩:=List.cons.inj hc;have hra:=(uh HRA).off hof (by omega) (by omega) (by omega) (by omega) (by omega) (by omega) (by omega) (by omega);have hs2:=hof.size;have l1:=look_rd w2 (w.heap.size+1+1+1) readers 4 1 1 (fnVr 205) hra.hm rfl;have k1:=kind_cell hra.hp 1 _ rfl;clear HRA HRD hc l0 k0 c0 c1 c2 c3 hb1;have HRA:=hide hra;have HRD:=hide hrd;clear hra hrd hof;go_wp2_with fail
 rw [rounds_succ];go_wp2_with fail
 have C:=hide (cnt_any1 _ _ B _ 2 20 3 (n :: r) _ 0 ⟨#[]⟩ w2 (by omega) (by omega) (by omega) (by omega) (by omega) (by simp) (uh HRD));rw [show numOf (List.take 1 (n :: r))=n.toNat by simp [numOf],show List.drop 1 (n :: r)=r from rfl,hg,if_neg (by decide)] at C;refine (uh C).mono ?_;rintro e w3 ⟨rfl,hnr,hrd⟩;have hra:=(uh HRA).off (hnr.off (N:=w.heap.size+1+1+1+1) (by omega)) (by omega) (by omega) (by omega) (by omega) (by omega) (by omega) (by omega) (by omega);have hs3:=hnr.size;have l3:=look_rd w3 (w.heap.size+1+1+1) readers 4 3 3 (fnVr 207) hra.hm rfl;have k2:=kind_cell hra.hp 2 _ rfl;clear HRA HRD C l1 k1;have HRA:=hide hra;have HRD:=hide hrd;clear hra hrd hnr;go_wp2_with fail
 rw [rounds_succ];go_wp2_with fail
 obtain ⟨g1,g2,g3⟩:2≤n.toNat∧n.toNat≤22∧n.toNat - 2≤r.length:=by
  have:=of_decide_eq_false hg
  omega
 have hrd:=uh HRD;rw [show ((n.toNat:Nat):Int) - 2=((n.toNat - 2:Nat):Int) by omega] at hrd;refine (dat_any _ _ B _ 2 20 3 r _ (n.toNat - 2) ⟨#[]⟩ w3 (by omega) (by omega) (by omega) g3 hrd).mono ?_;rintro e w4 ⟨rfl,hnr,hrd2⟩;have hra:=(uh HRA).off (hnr.off (N:=w.heap.size+1+1+1+1) (by omega)) (by omega) (by omega) (by omega) (by omega) (by omega) (by omega) (by omega) (by omega);obtain ⟨v',s,hR,hv,ho⟩:=hrd2;obtain ⟨off',cap',hvf,hcap',hl'⟩:=hv;subst hvf;obtain ⟨sa,sc,hsf⟩:=own_form ho;subst hsf;have hE:=hra.he;unfold zero8 at hE;have hfin:=hra.below;obtain ⟨c0,c1,c2,c3,c4,c5,c6,c7,_⟩:=rg8 hR;obtain ⟨e0,e1,e2,e3,e4,e5,e6,e7,ef⟩:=rg8 hE;have f0:=ef 0;have f1:=ef 1;have f2:=ef 2;have f3:=ef 3;have f4:=ef 4;have f5:=ef 5;have f6:=ef 6;have f7:=ef 7;have HL:=hide hl';have HO:=hide ho;have FIN:=hide (set8_load hE);unfold set8 at FIN;clear HRA HRD hrd hnr hra hR hl' ho ef hE l3 k2 hg;go_wp2_with fail
 rw [rounds_succ];go_wp2
 refine bodyPost_ret (v:=.tuple #[.agg #[.slice (some ⟨Pb,0,none⟩) 3 3,.int .i64 2,.int .i64 20,.int .i64 3,.slice (some ⟨B,off',none⟩) (r.drop (n.toNat - 2)).length cap',.slice sa 1 sc,.int .i64 ((n.toNat - 2:Nat):Int),.string (txt (r.take (n.toNat - 2)))],.nilIface]) (by simp [results,results154,asAddr,uh FIN]) rfl ?_;have hne:B≠w.heap.size+1:=by omega
 refine ⟨_,_,_,_,_,rfl,⟨off',cap',rfl,hcap',(uh HL).same (set8_block w4 (w.heap.size+1) _ _ _ _ _ _ _ _ B hne)⟩,?_,set8_below (E:=w.heap.size+1) hfin (Nat.le_succ _) _ _ _ _ _ _ _ _⟩;refine own_lowr (own_same (uh HO) fun g hg _=>set8_block w4 (w.heap.size+1) _ _ _ _ _ _ _ _ g ?_) (by omega);clear FIN;omega
theorem opt_bad1 (w:World) (Pb B:Nat) (v:Value) (k:UInt8) (hP:w.heap[Pb]?=some (.cells #[.int .i64 0,.int .i64 1,.int .i64 3] 242)) (hB:B<w.heap.size) (hv:Rest w B v [k]) :
  Calls prog 154 #[.agg #[.slice (some ⟨Pb,0,none⟩) 3 3,.int .i64 2,.int .i64 20,.int .i64 3],v] w fun e w'=>e=.returned (.tuple #[.agg zero8,wrong 3])∧Below w.heap.size w w':=by
 have hPw:Pb<w.heap.size:=(ge.1 hP).1;obtain ⟨off,cap,hvf,hcap,hl⟩:=hv;subst hvf;have HL:=hide hl;have HP:=hide hP;have HC:=hide hcap;clear hl hP hcap;go_enter func154,ntmps154
 go_wp2_with fail
 refine (partReaders _).mono ?_;rintro e w1 ⟨rfl,hw1⟩
 obtain ⟨hs,q0,q1,q2,q3,hb1⟩:=start4 w (.cells #[.slice (some ⟨Pb,0,none⟩) 3 3,.int .i64 2,.int .i64 20,.int .i64 3] 211) (.cells zero8 213)
  (.cells #[.slice (some ⟨Pb,0,none⟩) 3 3,.int .i64 2,.int .i64 20,.int .i64 3,.slice (some ⟨B,off,none⟩) 1 cap,.slice none 0 0,.int .i64 0,.string ⟨#[]⟩] 213) (.map readers 4)
 unfold zero8 at hs q0 q1 q2 q3 hb1;rw [← hw1] at hs q0 q1 q2 q3 hb1;have hra:Ra w w1 (w.heap.size+1+1+1) Pb (w.heap.size+1) #[.int .i64 0,.int .i64 1,.int .i64 3] zero8:=⟨q3,(hb1.block Pb hPw).trans (uh HP),q1,hb1⟩;have hrd:Rdg w1 (w.heap.size+1+1) (w.heap.size+1+1+1+1) B (.slice (some ⟨Pb,0,none⟩) 3 3) 2 20 3 [k] [] 0 ⟨#[]⟩ :=
  ⟨_,_,q2,⟨off,cap,rfl,uh HC,(uh HL).same (hb1.block B hB)⟩,⟨rfl,Or.inl ⟨rfl,rfl⟩⟩⟩
 obtain ⟨c0,c1,c2,c3⟩:=row4v q0;have HRA:=hide hra;have HRD:=hide hrd;have l0:=look_rd w1 (w.heap.size+1+1+1) readers 4 0 0 (fnVr 204) hra.hm rfl;have k0:=kind_cell hra.hp 0 _ rfl;clear hra hrd hw1 q0 q1 q2 q3 HL HP HC;go_wp2_with fail
 refine wp_loop_rounds 4 ?_;rw [rounds_succ];go_wp2_with fail
 refine (single_any _ _ B _ 2 20 3 [k] [] 0 ⟨#[]⟩ w1 (by omega) (by omega) (by omega) (by omega) (by simp) (uh HRD)).mono ?_;rintro e w2 ⟨hof,⟨hn,_⟩ | ⟨c,r',hc,rfl,hrd⟩⟩
 ·cases hn
 obtain ⟨rfl,rfl⟩:=List.cons.inj hc;have hra:=(uh HRA).off hof (by omega) (by omega) (by omega) (by omega) (by omega) (by omega) (by omega) (by omega);have hs2:=hof.size;have l1:=look_rd w2 (w.heap.size+1+1+1) readers 4 1 1 (fnVr 205) hra.hm rfl;have k1:=kind_cell hra.hp 1 _ rfl;clear HRA HRD hc l0 k0 c0 c1 c2 c3 hb1;have HRA:=hide hra;have HRD:=hide hrd;clear hra hrd hof;go_wp2_with fail
 rw [rounds_succ];go_wp2_with fail
 have C:=hide (cnt_short1 _ _ B _ 2 20 3 [] _ 0 ⟨#[]⟩ w2 (by simp) (uh HRD));refine (uh C).mono ?_;rintro e w3 ⟨rfl,hnr⟩;have hra:=(uh HRA).off (hnr.off (N:=w.heap.size+1+1+1+1) (by omega)) (by omega) (by omega) (by omega) (by omega) (by omega) (by omega) (by omega) (by omega);have hE:=hra.he;unfold zero8 at hE;have hfin:=hra.below;obtain ⟨e0,e1,e2,e3,e4,e5,e6,e7,ef⟩:=rg8 hE;have f0:=ef 0;have f1:=ef 1;have f2:=ef 2;have f3:=ef 3;have f4:=ef 4;have f5:=ef 5;have f6:=ef 6;have f7:=ef 7;have FIN:=hide (set8_load hE);unfold set8 at FIN;clear HRA HRD hnr hra ef hE l1 k1 C;unfold wrong;go_wp2
 refine bodyPost_ret (v:=.tuple #[.agg zero8,wrong 3]) (by simp [results,results154,asAddr,uh FIN,zero8,wrong]) rfl ⟨rfl,?_⟩;exact set8_below (E:=w.heap.size+1) hfin (Nat.le_succ _) _ _ _ _ _ _ _ _
theorem opt_bad2 (w:World) (Pb B:Nat) (v:Value) (k n:UInt8) (r:List UInt8) (hP:w.heap[Pb]?=some (.cells #[.int .i64 0,.int .i64 1,.int .i64 3] 242)) (hB:B<w.heap.size) (hv:Rest w B v (k :: n :: r)) (hg:bad 2 20 n.toNat r=true) :
  Calls prog 154 #[.agg #[.slice (some ⟨Pb,0,none⟩) 3 3,.int .i64 2,.int .i64 20,.int .i64 3],v] w fun e w'=>e=.returned (.tuple #[.agg zero8,wrong 3])∧Below w.heap.size w w':=by
 have hPw:Pb<w.heap.size:=(ge.1 hP).1;obtain ⟨off,cap,hvf,hcap,hl⟩:=hv;subst hvf;have HL:=hide hl;have HP:=hide hP;have HC:=hide hcap;clear hl hP hcap;go_enter func154,ntmps154
 go_wp2_with fail
 refine (partReaders _).mono ?_;rintro e w1 ⟨rfl,hw1⟩
 obtain ⟨hs,q0,q1,q2,q3,hb1⟩:=start4 w (.cells #[.slice (some ⟨Pb,0,none⟩) 3 3,.int .i64 2,.int .i64 20,.int .i64 3] 211) (.cells zero8 213)
  (.cells #[.slice (some ⟨Pb,0,none⟩) 3 3,.int .i64 2,.int .i64 20,.int .i64 3,.slice (some ⟨B,off,none⟩) (r.length+1+1) cap,.slice none 0 0,.int .i64 0,.string ⟨#[]⟩] 213) (.map readers 4)
 unfold zero8 at hs q0 q1 q2 q3 hb1;rw [← hw1] at hs q0 q1 q2 q3 hb1;have hra:Ra w w1 (w.heap.size+1+1+1) Pb (w.heap.size+1) #[.int .i64 0,.int .i64 1,.int .i64 3] zero8:=⟨q3,(hb1.block Pb hPw).trans (uh HP),q1,hb1⟩;have hrd:Rdg w1 (w.heap.size+1+1) (w.heap.size+1+1+1+1) B (.slice (some ⟨Pb,0,none⟩) 3 3) 2 20 3 (k :: n :: r) [] 0 ⟨#[]⟩ :=
  ⟨_,_,q2,⟨off,cap,rfl,uh HC,(uh HL).same (hb1.block B hB)⟩,⟨rfl,Or.inl ⟨rfl,rfl⟩⟩⟩
 obtain ⟨c0,c1,c2,c3⟩:=row4v q0;have HRA:=hide hra;have HRD:=hide hrd;have l0:=look_rd w1 (w.heap.size+1+1+1) readers 4 0 0 (fnVr 204) hra.hm rfl;have k0:=kind_cell hra.hp 0 _ rfl;clear hra hrd hw1 q0 q1 q2 q3 HL HP HC;go_wp2_with fail
 refine wp_loop_rounds 4 ?_;rw [rounds_succ];go_wp2_with fail
 refine (single_any _ _ B _ 2 20 3 (k :: n :: r) [] 0 ⟨#[]⟩ w1 (by omega) (by omega) (by omega) (by omega) (by simp) (uh HRD)).mono ?_;rintro e w2 ⟨hof,⟨hn,_⟩ | ⟨c,r',hc,rfl,hrd⟩⟩
 ·cases hn
 obtain ⟨rfl,rfl⟩:=List.cons.inj hc;have hra:=(uh HRA).off hof (by omega) (by omega) (by omega) (by omega) (by omega) (by omega) (by omega) (by omega);have hs2:=hof.size;have l1:=look_rd w2 (w.heap.size+1+1+1) readers 4 1 1 (fnVr 205) hra.hm rfl;have k1:=kind_cell hra.hp 1 _ rfl;clear HRA HRD hc l0 k0 c0 c1 c2 c3 hb1;have HRA:=hide hra;have HRD:=hide hrd;clear hra hrd hof;go_wp2_with fail
 rw [rounds_succ];go_wp2_with fail
 have C:=hide (cnt_any1 _ _ B _ 2 20 3 (n :: r) _ 0 ⟨#[]⟩ w2 (by omega) (by omega) (by omega) (by omega) (by omega) (by simp) (uh HRD));rw [show numOf (List.take 1 (n :: r))=n.toNat by simp [numOf],show List.drop 1 (n :: r)=r from rfl,hg,if_pos rfl] at C;refine (uh C).mono ?_;rintro e w3 ⟨rfl,hnr,_⟩;have hra:=(uh HRA).off (hnr.off (N:=w.heap.size+1+1+1+1) (by omega)) (by omega) (by omega) (by omega) (by omega) (by omega) (by omega) (by omega) (by omega);have hE:=hra.he;unfold zero8 at hE;have hfin:=hra.below;obtain ⟨e0,e1,e2,e3,e4,e5,e6,e7,ef⟩:=rg8 hE;have f0:=ef 0;have f1:=ef 1;have f2:=ef 2;have f3:=ef 3;have f4:=ef 4;have f5:=ef 5;have f6:=ef 6;have f7:=ef 7;have FIN:=hide (set8_load hE);unfold set8 at FIN;clear HRA HRD hnr hra ef hE l1 k1 C;unfold wrong;go_wp2
 refine bodyPost_ret (v:=.tuple #[.agg zero8,wrong 3]) (by simp [results,results154,asAddr,uh FIN,zero8,wrong]) rfl ⟨rfl,?_⟩;exact set8_below (E:=w.heap.size+1) hfin (Nat.le_succ _) _ _ _ _ _ _ _ _
end Go.Proofs.YtahpjlbaagkdoaaGreatDoor
