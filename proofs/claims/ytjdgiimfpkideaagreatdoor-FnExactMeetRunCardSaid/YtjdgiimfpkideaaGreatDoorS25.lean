/- WkUp WkA RepF WkL -/
import Derived.Test.YtjdgiimfpkideaaGreatDoorS24
import Derived.Test.YtjdgiimfpkideaaGreatDoorS17
import Derived.Test.YtjdgiimfpkideaaGreatDoorS11
set_option maxHeartbeats 8000000
set_option maxRecDepth 100000
namespace Go.Proofs.YtjdgiimfpkideaaGreatDoor
open Go.RowKit Go.Proofs.Tryz
structure Wk (w:World) (B:Nat) (cs:List Value) (q:World):Prop where
 row:q.heap[B]?=some (.cells cs.toArray 99)
 nr:Nr B w q
theorem Wk.set {w:World} {B:Nat} {cs:List Value} {q:World} (h:Wk w B cs q) (i:Nat) (v:Value):Wk w B (cs.set i v) (q.setCell ⟨B,i,none⟩ v) :=
 ⟨by rw [← List.setIfInBounds_toArray];exact zH _ _ i _ _ v h.row,h.nr.setCell i v⟩
theorem Wk.step {w:World} {B:Nat} {cs:List Value} {q q':World} (h:Wk w B cs q) (hb:Below q.heap.size q q'):Wk w B cs q' :=
 ⟨(hb.block _ (ge.1 h.row).1).trans h.row,h.nr.of_below hb⟩
theorem Wk.cell {w:World} {B:Nat} {cs:List Value} {q:World} (h:Wk w B cs q) {i:Nat} {v:Value} (hi:cs[i]?=some v):q.cell? ⟨B,i,none⟩=some v:=by
 rw [cr h.row,List.getElem?_toArray];exact hi
theorem Wk.there {w:World} {B:Nat} {cs:List Value} {q:World} (h:Wk w B cs q) (i:Nat) (hi:i<cs.length):∃ v,q.cell? ⟨B,i,none⟩=some v:=⟨cs[i],h.cell (List.getElem?_eq_getElem hi)⟩
theorem HoldsO.nr {w q:World} {v:Value} {F:List Op.Opt} {B:Nat} (h:HoldsO w v F) (hn:Nr B w q) (hne:nb F.length v≠some B):HoldsO q v F:=by
 rcases h with ⟨ad,cp,e,e0⟩ | ⟨g,cp,cur,e,q1,q2⟩
 ·exact Or.inl ⟨ad,cp,e,e0⟩
 ·by_cases hz:F.length=0
  ·have:F=[]:=List.eq_nil_of_length_eq_zero hz
   subst this;exact Or.inl ⟨_,_,e,rfl⟩
  ·have hg:nb F.length v=some g:=by rw [dC hz,e];rfl
   exact Or.inr ⟨g,cp,cur,e,(hn.block g (ge.1 q1).1 (fun e=>hne (by rw [hg,e]))).trans q1,q2⟩
def yK (L1 L2:Ln) (cs:List Value):List Value:=(((((((((((((((((((((cs.set 19 (.bool true)).set 20 (.int .i64 0)).set 21 (.int .i64 0)).set 22 (.bool false)).set 23 (.bool false)).set 24 (.bool false)).set 25 (.int .i64 0)).set 26 (.int .i64 0)).set 27 (.bool false)).set 28 (.bool false)).set 29 (.bool false)).set 20 (.int .i64 L1.m)).set 21 (.int .i64 L1.a)).set 22 (.bool L1.p)).set 23 (.bool L1.c)).set 24 (.bool L1.d)).set 25 (.int .i64 L2.m)).set 26 (.int .i64 L2.a)).set 27 (.bool L2.p)).set 28 (.bool L2.c)).set 29 (.bool L2.d))
def tH (cs:List Value):List Value:=(((((((((((cs.set 19 (.bool false)).set 20 (.int .i64 0)).set 21 (.int .i64 0)).set 22 (.bool false)).set 23 (.bool false)).set 24 (.bool false)).set 25 (.int .i64 0)).set 26 (.int .i64 0)).set 27 (.bool false)).set 28 (.bool false)).set 29 (.bool false))
theorem uU (B:Nat) (cs:List Value) (w:World) (hl:cs.length=39) (hB:w.heap[B]?=some (.cells cs.toArray 99)) :
  Calls prog 107 #[.pointer (some ⟨B,0,none⟩),.bool false] w fun e w'=>e=.returned (.tuple #[])∧Wk w B (tH cs) w':=by
 have h0:Wk w B cs w:=⟨hB,Nr.refl _ _⟩;obtain ⟨o19,q19⟩:=h0.there 19 (by simp [hl]);have f19:w.frozen? ⟨B,19,none⟩=false:=aX h0.row 19;obtain ⟨o20,q20⟩:=h0.there 20 (by simp [hl]);have f20:w.frozen? ⟨B,20,none⟩=false:=aX h0.row 20;obtain ⟨o21,q21⟩:=h0.there 21 (by simp [hl]);have f21:w.frozen? ⟨B,21,none⟩=false:=aX h0.row 21;obtain ⟨o22,q22⟩:=h0.there 22 (by simp [hl]);have f22:w.frozen? ⟨B,22,none⟩=false:=aX h0.row 22;obtain ⟨o23,q23⟩:=h0.there 23 (by simp [hl]);have f23:w.frozen? ⟨B,23,none⟩=false:=aX h0.row 23;obtain ⟨o24,q24⟩:=h0.there 24 (by simp [hl]);have f24:w.frozen? ⟨B,24,none⟩=false:=aX h0.row 24;obtain ⟨o25,q25⟩:=h0.there 25 (by simp [hl]);have f25:w.frozen? ⟨B,25,none⟩=false:=aX h0.row 25;obtain ⟨o26,q26⟩:=h0.there 26 (by simp [hl]);have f26:w.frozen? ⟨B,26,none⟩=false:=aX h0.row 26;obtain ⟨o27,q27⟩:=h0.there 27 (by simp [hl]);have f27:w.frozen? ⟨B,27,none⟩=false:=aX h0.row 27;obtain ⟨o28,q28⟩:=h0.there 28 (by simp [hl]);have f28:w.frozen? ⟨B,28,none⟩=false:=aX h0.row 28;obtain ⟨o29,q29⟩:=h0.there 29 (by simp [hl]);have f29:w.frozen? ⟨B,29,none⟩=false:=aX h0.row 29;have H0:=aa h0;clear h0 hB;go_enter func107,ntmps107
 go_wp2
 exact Great.bodyPost_end0 rfl rfl ⟨rfl,((((((((((((uh H0).set 19 (.bool false)).set 20 (.int .i64 0)).set 21 (.int .i64 0)).set 22 (.bool false)).set 23 (.bool false)).set 24 (.bool false)).set 25 (.int .i64 0)).set 26 (.int .i64 0)).set 27 (.bool false)).set 28 (.bool false)).set 29 (.bool false))⟩
theorem yL (B:Nat) (cs:List Value) (x1 x2:Option Addr) (y1 y2:Nat) (M P:List Op.Opt) (w:World) (hl:cs.length=39) (hB:w.heap[B]?=some (.cells cs.toArray 99)) (h17:cs[17]?=some (.slice x1 M.length y1)) (h18:cs[18]?=some (.slice x2 P.length y2))
  (l1:M.length≤maxLen) (l2:P.length≤maxLen) (hm:HoldsO w (.slice x1 M.length y1) M) (hp:HoldsO w (.slice x2 P.length y2) P) (n1:nb M.length (.slice x1 M.length y1)≠some B) (n2:nb P.length (.slice x2 P.length y2)≠some B) :
  Calls prog 107 #[.pointer (some ⟨B,0,none⟩),.bool true] w fun e w'=>e=.returned (.tuple #[])∧Wk w B (yK (bc M) (bc P) cs) w':=by
 have h0:Wk w B cs w:=⟨hB,Nr.refl _ _⟩;have C1:=aa fun q (hn:Nr B w q)=>gy _ M q l1 (hm.nr hn n1)
 have C2:=aa fun q (hn:Nr B w q)=>gy _ P q l2 (hp.nr hn n2)
 clear hm hp n1 n2 l1 l2;generalize bc M=L1 at *;generalize bc P=L2 at *;generalize M.length=m1 at *;generalize P.length=m2 at *;have r17:w.cell? ⟨B,17,none⟩=some (.slice x1 m1 y1):=h0.cell (by (repeat rw [List.getElem?_set_ne (by decide)]);exact h17);obtain ⟨o19,q19⟩:=h0.there 19 (by simp [hl]);have f19:w.frozen? ⟨B,19,none⟩=false:=aX h0.row 19;obtain ⟨o20,q20⟩:=h0.there 20 (by simp [hl]);have f20:w.frozen? ⟨B,20,none⟩=false:=aX h0.row 20;obtain ⟨o21,q21⟩:=h0.there 21 (by simp [hl]);have f21:w.frozen? ⟨B,21,none⟩=false:=aX h0.row 21;obtain ⟨o22,q22⟩:=h0.there 22 (by simp [hl]);have f22:w.frozen? ⟨B,22,none⟩=false:=aX h0.row 22;obtain ⟨o23,q23⟩:=h0.there 23 (by simp [hl]);have f23:w.frozen? ⟨B,23,none⟩=false:=aX h0.row 23;obtain ⟨o24,q24⟩:=h0.there 24 (by simp [hl]);have f24:w.frozen? ⟨B,24,none⟩=false:=aX h0.row 24;obtain ⟨o25,q25⟩:=h0.there 25 (by simp [hl]);have f25:w.frozen? ⟨B,25,none⟩=false:=aX h0.row 25;obtain ⟨o26,q26⟩:=h0.there 26 (by simp [hl]);have f26:w.frozen? ⟨B,26,none⟩=false:=aX h0.row 26;obtain ⟨o27,q27⟩:=h0.there 27 (by simp [hl]);have f27:w.frozen? ⟨B,27,none⟩=false:=aX h0.row 27;obtain ⟨o28,q28⟩:=h0.there 28 (by simp [hl]);have f28:w.frozen? ⟨B,28,none⟩=false:=aX h0.row 28;obtain ⟨o29,q29⟩:=h0.there 29 (by simp [hl]);have f29:w.frozen? ⟨B,29,none⟩=false:=aX h0.row 29;have H0:=aa h0;clear h0 hB;go_enter func107,ntmps107
 go_wp2_with fail
 refine (uh C1 _ ((((((((((((uh H0).set 19 (.bool true)).set 20 (.int .i64 0)).set 21 (.int .i64 0)).set 22 (.bool false)).set 23 (.bool false)).set 24 (.bool false)).set 25 (.int .i64 0)).set 26 (.int .i64 0)).set 27 (.bool false)).set 28 (.bool false)).set 29 (.bool false)).nr).mono ?_;clear r17 q19 f19 q20 f20 q21 f21 q22 f22 q23 f23 q24 f24 q25 f25 q26 f26 q27 f27 q28 f28 q29 f29;rintro e w1 ⟨rfl,hb1⟩;have h1:=((((((((((((uh H0).set 19 (.bool true)).set 20 (.int .i64 0)).set 21 (.int .i64 0)).set 22 (.bool false)).set 23 (.bool false)).set 24 (.bool false)).set 25 (.int .i64 0)).set 26 (.int .i64 0)).set 27 (.bool false)).set 28 (.bool false)).set 29 (.bool false)).step hb1;have r18:w1.cell? ⟨B,18,none⟩=some (.slice x2 m2 y2):=h1.cell (by (repeat rw [List.getElem?_set_ne (by decide)]);exact h18);obtain ⟨o20,q20⟩:=h1.there 20 (by simp [hl]);have f20:w1.frozen? ⟨B,20,none⟩=false:=aX h1.row 20;obtain ⟨o21,q21⟩:=h1.there 21 (by simp [hl]);have f21:w1.frozen? ⟨B,21,none⟩=false:=aX h1.row 21;obtain ⟨o22,q22⟩:=h1.there 22 (by simp [hl]);have f22:w1.frozen? ⟨B,22,none⟩=false:=aX h1.row 22;obtain ⟨o23,q23⟩:=h1.there 23 (by simp [hl]);have f23:w1.frozen? ⟨B,23,none⟩=false:=aX h1.row 23;obtain ⟨o24,q24⟩:=h1.there 24 (by simp [hl]);have f24:w1.frozen? ⟨B,24,none⟩=false:=aX h1.row 24;have H1:=aa h1;clear h1 hb1 H0;go_wp2_with fail
 refine (uh C2 _ ((((((uh H1).set 20 (.int .i64 L1.m)).set 21 (.int .i64 L1.a)).set 22 (.bool L1.p)).set 23 (.bool L1.c)).set 24 (.bool L1.d)).nr).mono ?_;clear r18 q20 f20 q21 f21 q22 f22 q23 f23 q24 f24;rintro e w2 ⟨rfl,hb2⟩;have h2:=((((((uh H1).set 20 (.int .i64 L1.m)).set 21 (.int .i64 L1.a)).set 22 (.bool L1.p)).set 23 (.bool L1.c)).set 24 (.bool L1.d)).step hb2;obtain ⟨o25,q25⟩:=h2.there 25 (by simp [hl]);have f25:w2.frozen? ⟨B,25,none⟩=false:=aX h2.row 25;obtain ⟨o26,q26⟩:=h2.there 26 (by simp [hl]);have f26:w2.frozen? ⟨B,26,none⟩=false:=aX h2.row 26;obtain ⟨o27,q27⟩:=h2.there 27 (by simp [hl]);have f27:w2.frozen? ⟨B,27,none⟩=false:=aX h2.row 27;obtain ⟨o28,q28⟩:=h2.there 28 (by simp [hl]);have f28:w2.frozen? ⟨B,28,none⟩=false:=aX h2.row 28;obtain ⟨o29,q29⟩:=h2.there 29 (by simp [hl]);have f29:w2.frozen? ⟨B,29,none⟩=false:=aX h2.row 29;have H2:=aa h2;clear h2 hb2 H1;go_wp2
 exact Great.bodyPost_end0 rfl rfl ⟨rfl,((((((uh H2).set 25 (.int .i64 L2.m)).set 26 (.int .i64 L2.a)).set 27 (.bool L2.p)).set 28 (.bool L2.c)).set 29 (.bool L2.d))⟩
theorem wV:Tt 99:=⟨by decide,by decide,by decide⟩
section
variable {w0 w1:World} {B:Nat} {c:Cx} {s:St} {v1 v2 vs vt:Value} {q:World}
theorem qh (h:Lay 99 w0 w1 B c s v1 v2 vs vt q) (hid:0≤s.e.id∧s.e.id≤255) :
    Calls prog 101 #[.pointer (some ⟨B,0,none⟩)] q fun r q'=>r=.returned (.int .i64 ((s.e.id+1) % 256))∧Lay 99 w0 w1 B c { s with e:=fi s.e } v1 v2 vs vt q' :=
  (uT B _ s.e.id q h.row rfl hid.1 hid.2).mono fun _ _ ⟨h1,h2⟩=>⟨h1,h2 ▸ h.setRaw 15 _ (fi s.e) rfl⟩
theorem wW (h:Lay 99 w0 w1 B c s v1 v2 vs vt q) (htr:0≤s.e.tr∧s.e.tr≤5) (hn:0≤c.now∧c.now≤1000000000) :
    Calls prog 102 #[.pointer (some ⟨B,0,none⟩)] q fun r q'=>r=.returned (.tuple #[])∧Lay 99 w0 w1 B c { s with e:=kq c.now s.e } v1 v2 vs vt q' :=
  (wT B _ s.e.tr s.e.du c.now q h.row rfl rfl rfl htr.1 htr.2 hn.1 hn.2).mono fun _ _ ⟨h1,h2⟩=>⟨h1,h2 ▸ (h.setRaw 13 _ { s.e with tr:=max 0 (s.e.tr - 1) } rfl).setRaw 14 _ (kq c.now s.e) rfl⟩
theorem lL (h:Lay 99 w0 w1 B c s v1 v2 vs vt q) (hn:s.sn.length≤1000) (cd id:Int) (dt:ByteArray) :
    Calls prog 100 #[.pointer (some ⟨B,0,none⟩),.int .i64 cd,.int .i64 id,.string dt] q fun r q'=>r=.returned (.tuple #[])∧∃ vs',Lay 99 w0 w1 B c (gE s cd id dt) v1 v2 vs' vt q':=by
  refine (wU B w1.heap.size _ vs s.sn cd id dt q h.row rfl hn h.os (aq h.os h.row h.tt.2.1) h.nr.size).mono ?_;rintro r q' ⟨h1,v,q2,rfl,ho,hg⟩;refine ⟨h1,v,h.put _ hg v _ ?_⟩;rw [List.length_append];exact ho
theorem wX (h:Lay 99 w0 w1 B c s v1 v2 vs vt q) :
    Calls prog 107 #[.pointer (some ⟨B,0,none⟩),.bool false] q fun r q'=>r=.returned (.tuple #[])∧Lay 99 w0 w1 B c { s with e:=gD s.e } v1 v2 vs vt q':=by
  refine (uU B (lF c s.e v1 v2 vs vt) q rfl h.row).mono ?_;rintro r q' ⟨h1,h2,h3⟩;refine ⟨h1,?_⟩;have e:tH (lF c s.e v1 v2 vs vt)=lF c (gD s.e) v1 v2 vs vt:=rfl;rw [e] at h2;exact h.ofNr h2 h3
theorem wY (h:Lay 99 w0 w1 B c s v1 v2 vs vt q) :
    Calls prog 72 #[.pointer (some ⟨B,0,none⟩),.string mO] q fun r q'=>r=.returned (.tuple #[])∧∃ v1 v2 vs vt,Lay 99 w0 w1 B c (pU s) v1 v2 vs vt q':=by
  have c13:=h.cell (i:=13) rfl;have f13:=h.frz 13;have HL:=aa h;clear h;go_enter func72,ntmps72
  go_wp2
  exact Great.bodyPost_end0 rfl rfl ⟨rfl,_,_,_,_,(uh HL).setRaw 13 _ _ rfl⟩
theorem yM (h:Lay 99 w0 w1 B c s v1 v2 vs vt q) :
    Calls prog 72 #[.pointer (some ⟨B,0,none⟩),.string pT] q fun r q'=>r=.returned (.tuple #[])∧∃ v1 v2 vs vt,Lay 99 w0 w1 B c (pV s) v1 v2 vs vt q':=by
  have c13:=h.cell (i:=13) rfl;have f13:=h.frz 13;have HL:=aa h;clear h;go_enter func72,ntmps72
  go_wp2
  exact Great.bodyPost_end0 rfl rfl ⟨rfl,_,_,_,_,(uh HL).setRaw 13 _ _ rfl⟩
theorem wZ (h:Lay 99 w0 w1 B c s v1 v2 vs vt q) {n:Nat} (hf:Fit n c s) (hn:n≤1000) :
    Calls prog 72 #[.pointer (some ⟨B,0,none⟩),.string mQ] q fun r q'=>r=.returned (.tuple #[])∧∃ v1 v2 vs vt,Lay 99 w0 w1 B c (lH c s) v1 v2 vs vt q':=by
  have HF:=aa hf;have HL:=aa h;clear h hf;go_enter func72,ntmps72
  go_wp2_with fail
  refine (qh (uh HL) (uh HF).id).mono ?_;rintro r q1 ⟨rfl,h1⟩;have HL1:=aa h1;clear h1;go_wp2_with fail
  refine (lL (uh HL1) (zE (uh HF).sn hn) 5 _ _).mono ?_;rintro r q2 ⟨rfl,vs2,h2⟩;have HL2:=aa h2;clear h2;go_wp2_with fail
  refine (wW (uh HL2) (uh HF).tr (uh HF).now).mono ?_;rintro r q3 ⟨rfl,h3⟩;go_wp2
  exact Great.bodyPost_end0 rfl rfl ⟨rfl,_,_,_,_,h3⟩
theorem w_ (h:Lay 99 w0 w1 B c s v1 v2 vs vt q) {n:Nat} (hf:Fit n c s) (hn:n≤1000) :
    Calls prog 72 #[.pointer (some ⟨B,0,none⟩),.string bP] q fun r q'=>r=.returned (.tuple #[])∧∃ v1 v2 vs vt,Lay 99 w0 w1 B c (say bP s) v1 v2 vs vt q':=by
  have c38:=h.cell (i:=38) rfl;obtain ⟨ad,cp,rfl⟩:=af h.ot;have hno:s.tl.length≤1000:=zE hf.tl hn;obtain ⟨k,hnn⟩:∃ k,s.tl.length=k:=⟨_,rfl⟩;have ho:=h.ot;rw [hnn] at c38 ho hno h;have HO:=aa ho;have HL:=aa h;clear h ho hf;go_enter func72,ntmps72
  go_wp2_with (first
    | (at_builtin;refine dw rfl _ _ rfl w1.heap.size (.slice ad k cp) s.tl k hnn rfl (uh HO) bP rfl (by omega) (uh HL).nr.size ?_;rintro v6 w6 ho6 hg6;obtain ⟨a6,c6,rfl⟩:=af ho6
       have e6:=(hg6.block B (Nat.lt_of_lt_of_le (uh HL).lt (by simp)) (fun e=>(aq (uh HL).ot (uh HL).row (uh HL).tt.2.2) e.symm)).trans ((zG _ _ _ (uh HL).lt).trans (uh HL).row);have k6:w6.cell? ⟨B,38,none⟩=some (.slice ad k cp):=by rw [cr e6];rfl
       have f6:w6.frozen? ⟨B,38,none⟩=false:=aX e6 38;clear e6))
  refine Great.bodyPost_end0 rfl rfl ⟨rfl,_,_,_,_,(uh HL).say _ hg6 _ _ ?_⟩;rw [List.length_append,hnn];exact ho6
theorem xb (h:Lay 99 w0 w1 B c s v1 v2 vs vt q) {n:Nat} (hf:Fit n c s) (hn:n≤1000) :
    Calls prog 72 #[.pointer (some ⟨B,0,none⟩),.string bQ] q fun r q'=>r=.returned (.tuple #[])∧∃ v1 v2 vs vt,Lay 99 w0 w1 B c (say bQ s) v1 v2 vs vt q':=by
  have c38:=h.cell (i:=38) rfl;obtain ⟨ad,cp,rfl⟩:=af h.ot;have hno:s.tl.length≤1000:=zE hf.tl hn;obtain ⟨k,hnn⟩:∃ k,s.tl.length=k:=⟨_,rfl⟩;have ho:=h.ot;rw [hnn] at c38 ho hno h;have HO:=aa ho;have HL:=aa h;clear h ho hf;go_enter func72,ntmps72
  go_wp2_with (first
    | (at_builtin;refine dw rfl _ _ rfl w1.heap.size (.slice ad k cp) s.tl k hnn rfl (uh HO) bQ rfl (by omega) (uh HL).nr.size ?_;rintro v6 w6 ho6 hg6;obtain ⟨a6,c6,rfl⟩:=af ho6
       have e6:=(hg6.block B (Nat.lt_of_lt_of_le (uh HL).lt (by simp)) (fun e=>(aq (uh HL).ot (uh HL).row (uh HL).tt.2.2) e.symm)).trans ((zG _ _ _ (uh HL).lt).trans (uh HL).row);have k6:w6.cell? ⟨B,38,none⟩=some (.slice ad k cp):=by rw [cr e6];rfl
       have f6:w6.frozen? ⟨B,38,none⟩=false:=aX e6 38;clear e6))
  refine Great.bodyPost_end0 rfl rfl ⟨rfl,_,_,_,_,(uh HL).say _ hg6 _ _ ?_⟩;rw [List.length_append,hnn];exact ho6
theorem xd (h:Lay 99 w0 w1 B c s v1 v2 vs vt q) {n:Nat} (hf:Fit n c s) (hn:n≤1000) :
    Calls prog 72 #[.pointer (some ⟨B,0,none⟩),.string bL] q fun r q'=>r=.returned (.tuple #[])∧∃ v1 v2 vs vt,Lay 99 w0 w1 B c (pW s) v1 v2 vs vt q':=by
  have HF:=aa hf;have HL0:=aa h;clear h hf;go_enter func72,ntmps72
  go_wp2_with fail
  refine (wX (uh HL0)).mono ?_;rintro r q1 ⟨rfl,h⟩;have c38:=h.cell (i:=38) rfl;obtain ⟨ad,cp,rfl⟩:=af h.ot;have hno:s.tl.length≤1000:=zE (uh HF).tl hn;obtain ⟨k,hnn⟩:∃ k,s.tl.length=k:=⟨_,rfl⟩;have ho:=h.ot;dsimp only at c38 ho h;rw [hnn] at c38 ho hno h;have HO:=aa ho;have HL:=aa h;clear h ho HF HL0
  go_wp2_with (first
    | (at_builtin;refine dw rfl _ _ rfl w1.heap.size (.slice ad k cp) s.tl k hnn rfl (uh HO) bL rfl (by omega) (uh HL).nr.size ?_;rintro v6 w6 ho6 hg6;obtain ⟨a6,c6,rfl⟩:=af ho6
       have e6:=(hg6.block B (Nat.lt_of_lt_of_le (uh HL).lt (by simp)) (fun e=>(aq (uh HL).ot (uh HL).row (uh HL).tt.2.2) e.symm)).trans ((zG _ _ _ (uh HL).lt).trans (uh HL).row);have k6:w6.cell? ⟨B,38,none⟩=some (.slice ad k cp):=by rw [cr e6];rfl
       have f6:w6.frozen? ⟨B,38,none⟩=false:=aX e6 38;clear e6))
  refine Great.bodyPost_end0 rfl rfl ⟨rfl,_,_,_,_,(uh HL).say _ hg6 _ _ ?_⟩;rw [List.length_append,hnn];exact ho6
theorem xe (h:Lay 99 w0 w1 B c s v1 v2 vs vt q) {n:Nat} (hf:Fit n c s) (hn:n≤1000) :
    Calls prog 72 #[.pointer (some ⟨B,0,none⟩),.string mP] q fun r q'=>r=.returned (.tuple #[])∧∃ v1 v2 vs vt,Lay 99 w0 w1 B c (lG c s) v1 v2 vs vt q':=by
  have HF:=aa hf;obtain ⟨e1,e2,e3⟩:=g_ hf.ask;have CA:=aa fun W=>sD s.e.m2.toNat s.e.a2.toNat s.e.g2.toNat s.e.p2 s.e.c2 s.e.d2 W
  rw [e1,e2,e3] at CA;clear e1 e2 e3;have c6:=h.cell (i:=6) rfl;have c7:=h.cell (i:=7) rfl;have c8:=h.cell (i:=8) rfl;have c9:=h.cell (i:=9) rfl;have c10:=h.cell (i:=10) rfl;have c11:=h.cell (i:=11) rfl;have HL:=aa h;clear h hf;go_enter func72,ntmps72
  go_wp2_with fail
  refine (uh CA _).mono ?_;rintro r q1 ⟨_,rfl,ad,cp,rfl,ho,hb⟩;have h1:=(uh HL).step hb;have c17:=h1.cell (i:=17) rfl;have f17:=h1.frz 17;have HL1:=aa ((uh HL).new1 hb _ (dv s.e) ho);clear h1 ho hb HL CA c6 c7 c8 c9 c10 c11;go_upto_region 10 with fail
  refine ab (fun z=>Lay 99 w0 w1 B c { s with F1:=dv s.e } (.slice ad (dv s.e).length cp) v2 vs vt z) ?_ ?_
  · exact uh HL1
  clear HL1 c17 f17;rintro z hz;have c17:=hz.cell (i:=17) rfl;have HZ:=aa (hz.step (zC _ _).drew);clear hz;refine wp_region_held_drew (S:=fun z=>z.cell? ⟨B,17,none⟩=some (.slice ad (dv s.e).length cp)) (by kernel_rfl) ?_ (fun hHeld=>?_)
  · exact c17
  refine tq 0 1 3 4 ?_;refine tt 5 6 ?_;refine t2 7 ?_;refine r3 2 fun K hK=>?_
  go_simp;refine (qh (uh HZ) (uh HF).id).mono ?_;rintro r z1 ⟨rfl,h1⟩;have HZ1:=aa h1;clear h1;go_wp2_with fail
  refine ro hK ?_ fun _=>?_
  · exact (uh HZ1).cell (i:=17) rfl
  clear hK K;refine r3 8 fun K hK=>?_
  go_simp;refine (fJ _ (dv s.e) _ (aT (jo s.e)) (HoldsO.own (uh HZ1).o1)).mono ?_;rintro r z2 ⟨rfl,hb2⟩;have HZ2:=aa ((uh HZ1).step hb2);clear hb2;go_wp2_with fail
  refine ro hK ?_ fun _=>?_
  · exact (uh HZ2).cell (i:=17) rfl
  clear hK K;refine r3 9 fun K hK=>?_
  go_simp;refine (lL (uh HZ2) (zE (uh HF).sn hn) 1 _ _).mono ?_;rintro r z3 ⟨rfl,vs3,h3⟩;have HP:=aa h3;clear h3;go_wp2_with fail
  refine ro hK ?_ fun _=>?_
  · exact (uh HP).cell (i:=17) rfl
  clear hK K;refine dn ?_ _;go_wp2_with fail
  refine (wW (uh HP) (uh HF).tr (uh HF).now).mono ?_;rintro r q9 ⟨rfl,h9⟩;go_wp2
  exact Great.bodyPost_end0 rfl rfl ⟨rfl,_,_,_,_,h9⟩
end
theorem oK (m a g:Int) (p c d:Bool) (L:List Op.Opt) (v:Value) (w:World) (hm:L.length≤maxLen) (hL:HoldsO w v L) (h:aK m a g=false∨Op.right L=false) :
  Calls prog 109 #[cN m a g p c d,v] w fun e w'=>e=.returned (.agg #[.int .i64 0,.slice none 0 0])∧Below w.heap.size w w':=by
 have C1:=aa fun q=>dO m a g p c d q
 obtain ⟨hs,q0,q1,hb0⟩:=br w (.cells #[.int .i64 m,.int .i64 a,.int .i64 g,.bool p,.bool c,.bool d] 24) (.cells #[.int .i64 0,.slice none 0 0] 97);have HQ:=aa (zA hs (zA q0 (zA q1 hb0)));have C2:=aa fun q (hq:Below w.heap.size w q)=>cz v L q hm (hL.below hq rfl)
 obtain ⟨ad,cp,rfl⟩:=hL.form;generalize L.length=n at *;clear hs q0 q1 hb0 hL;by_cases hc:aK m a g=true
 ·have hr:Op.right L=false:=by
   rcases h with h | h
   ·rw [hc] at h;cases h
   ·exact h
  rw [hc] at C1;rw [hr] at C2;go_enter func109,ntmps109
  go_wp2_with fail
  refine (uh C1 _).mono ?_;rintro e w1 ⟨rfl,hb1⟩;have hB1:=(uh HQ).2.2.2.trans (hb1.mono (by rw [(uh HQ).1];omega));have hr1:=(hb1.block (w.heap.size+1) (by rw [(uh HQ).1];omega)).trans (uh HQ).2.2.1;have H1:=aa (zA hB1 hr1);clear hB1 hr1 hb1 HQ;go_wp2_with fail
  refine (uh C2 _ (uh H1).1).mono ?_;rintro e w2 ⟨rfl,hb2⟩;have hB2:=(uh H1).1.trans (hb2.mono (uh H1).1.size);have hr2:=(hb2.block (w.heap.size+1) (ge.1 (uh H1).2).1).trans (uh H1).2;obtain ⟨c0,c1,f0,f1⟩:=av hr2;have H2:=aa (zA hB2 hr2);clear hB2 hr2 hb2 H1;go_wp2
  refine bodyPost_ret (v:=.agg #[.int .i64 0,.slice none 0 0]) (by simp [results,results109,asAddr,dM (aM (uh H2).2 (.int .i64 0) (.slice none 0 0))]) rfl ⟨rfl,?_⟩;exact ((uh H2).1.setCell (p:=⟨w.heap.size+1,0,none⟩) (Nat.le_succ _) _).setCell (p:=⟨w.heap.size+1,1,none⟩) (Nat.le_succ _) _
 ·rw [Bool.not_eq_true] at hc;rw [hc] at C1;clear C2;go_enter func109,ntmps109
  go_wp2_with fail
  refine (uh C1 _).mono ?_;rintro e w1 ⟨rfl,hb1⟩;have hB2:=(uh HQ).2.2.2.trans (hb1.mono (by rw [(uh HQ).1];omega));have hr2:=(hb1.block (w.heap.size+1) (by rw [(uh HQ).1];omega)).trans (uh HQ).2.2.1;obtain ⟨c0,c1,f0,f1⟩:=av hr2;have H2:=aa (zA hB2 hr2);clear hB2 hr2 hb1 HQ;go_wp2
  refine bodyPost_ret (v:=.agg #[.int .i64 0,.slice none 0 0]) (by simp [results,results109,asAddr,dM (aM (uh H2).2 (.int .i64 0) (.slice none 0 0))]) rfl ⟨rfl,?_⟩;exact ((uh H2).1.setCell (p:=⟨w.heap.size+1,0,none⟩) (Nat.le_succ _) _).setCell (p:=⟨w.heap.size+1,1,none⟩) (Nat.le_succ _) _
def ck (m a g:Int) (p c d:Bool) (L:List Op.Opt):Int × List Op.Opt :=
 if aK m a g=true∧Op.right L=true then (mx (b_ m.toNat a.toNat g.toNat p c d L),fl (mx (b_ m.toNat a.toNat g.toNat p c d L)) (b_ m.toNat a.toNat g.toNat p c d L)) else (0,[])
theorem lM (m a g:Int) (p c d:Bool) (L:List Op.Opt):(ck m a g p c d L).2.length≤20:=by
 unfold ck;split
 ·next h =>
  refine zE (kl _ _) ?_;unfold b_;rw [eq];exact Op.right_len h.2
 ·exact Nat.zero_le _
theorem nV {m a g:Int} (h:aK m a g=true):((m.toNat:Nat):Int)=m∧((a.toNat:Nat):Int)=a∧((g.toNat:Nat):Int)=g:=by
 simp only [aK,al,Bool.and_eq_true,decide_eq_true_eq] at h;omega
theorem mY (m a g:Int) (p c d:Bool) (L:List Op.Opt) (v:Value) (w:World) (hm:L.length≤maxLen) (hL:HoldsO w v L) :
  Calls prog 149 #[cN m a g p c d,v] w fun e w'=>∃ ad cp,e=.returned (.agg #[.int .i64 (ck m a g p c d L).1,.slice ad (ck m a g p c d L).2.length cp])∧w'.ownsRow w.heap.size 105 2 (.slice ad (ck m a g p c d L).2.length cp) (ck m a g p c d L).2.length (aj (ck m a g p c d L).2)∧Below w.heap.size w w':=by
 by_cases h:aK m a g=true∧Op.right L=true
 ·rw [show ck m a g p c d L=(mx (b_ m.toNat a.toNat g.toNat p c d L),fl (mx (b_ m.toNat a.toNat g.toNat p c d L)) (b_ m.toNat a.toNat g.toNat p c d L)) from if_pos h];obtain ⟨e1,e2,e3⟩:=nV h.1;have:=mN m.toNat a.toNat g.toNat p c d L v w hL (by rw [e1,e2,e3];exact h.1) h.2
  rw [e1,e2,e3] at this;exact this
 ·rw [show ck m a g p c d L=(0,[]) from if_neg h];refine (oE m a g p c d L v w hm hL ?_).mono fun e w' ⟨h1,h2⟩=>⟨none,0,h1,⟨rfl,Or.inl ⟨rfl,rfl⟩⟩,h2⟩
  cases h1:aK m a g
  ·exact Or.inl rfl
  ·right
   cases h2:Op.right L
   ·rfl
   ·exact absurd ⟨h1,h2⟩ h
theorem mZ (m a g:Int) (p c d:Bool) (L:List Op.Opt) (v:Value) (w:World) (hm:L.length≤maxLen) (hL:HoldsO w v L) :
  Calls prog 109 #[cN m a g p c d,v] w fun e w'=>∃ ad cp,e=.returned (.agg #[.int .i64 (ck m a g p c d L).1,.slice ad (ck m a g p c d L).2.length cp])∧w'.ownsRow w.heap.size 105 2 (.slice ad (ck m a g p c d L).2.length cp) (ck m a g p c d L).2.length (aj (ck m a g p c d L).2)∧Below w.heap.size w w':=by
 by_cases h:aK m a g=true∧Op.right L=true
 ·rw [show ck m a g p c d L=(mx (b_ m.toNat a.toNat g.toNat p c d L),fl (mx (b_ m.toNat a.toNat g.toNat p c d L)) (b_ m.toNat a.toNat g.toNat p c d L)) from if_pos h];obtain ⟨e1,e2,e3⟩:=nV h.1;obtain ⟨ad,cp,rfl⟩:=hL.form;have:=mX m.toNat a.toNat g.toNat p c d L ad cp w hL (by rw [e1,e2,e3];exact h.1) h.2
  rw [e1,e2,e3] at this;exact this
 ·rw [show ck m a g p c d L=(0,[]) from if_neg h];refine (oK m a g p c d L v w hm hL ?_).mono fun e w' ⟨h1,h2⟩=>⟨none,0,h1,⟨rfl,Or.inl ⟨rfl,rfl⟩⟩,h2⟩
  cases h1:aK m a g
  ·exact Or.inl rfl
  ·right
   cases h2:Op.right L
   ·rfl
   ·exact absurd ⟨h1,h2⟩ h
theorem qA (v:Value) (F:List Op.Opt) (w:World) (hr:Op.right F=true) (h:HoldsO w v F):Calls prog 116 #[v] w fun e w'=>∃ ad cp,e=.returned (.slice ad F.length cp)∧w'.ownsRow w.heap.size 105 2 (.slice ad F.length cp) F.length (aj F)∧Below w.heap.size w w':=by
 have hl20:F.length≤20:=by
  unfold Op.right at hr;rw [Bool.and_eq_true] at hr;exact of_decide_eq_true hr.1
 have hok:∀ o ∈ F,o.data.size≤20:=by
  unfold Op.right at hr;rw [Bool.and_eq_true] at hr;exact fun o ho=>(of_decide_eq_true (List.all_eq_true.1 hr.2 o ho)).2.2
 have HH:=aa h;obtain ⟨va,vc,rfl⟩:=h.form;obtain ⟨n,hn⟩:∃ n,F.length=n:=⟨_,rfl⟩;rw [hn] at HH hl20 ⊢;clear h hr;go_enter func116,ntmps116
 go_wp2_with fail
 go_loopw [3,8] (fun x y wr=>∃ (i:Nat) (ad:Option Addr) (cp:Nat),i≤n∧y=.int .i64 i∧x=.slice ad (F.take i).length cp∧wr.ownsRow w.heap.size 105 2 (.slice ad (F.take i).length cp) (F.take i).length (aj (F.take i))∧Below w.heap.size w wr) (fun x y wr=>n - (intOf y).toNat)
 case atStart=>exact ⟨0,none,0,Nat.zero_le _,rfl,rfl,⟨rfl,Or.inl ⟨rfl,rfl⟩⟩,zC _ _⟩
 case round =>
  obtain ⟨i,ad,cp,hi,rfl,rfl,ho,hb⟩:=hrel;have hbs:=hb.size;have HO:=aa ho;have HB:=aa hb;by_cases hlt:i<n
  ·have d1:(i:Int)<(n:Int):=by omega
   have d0:(0:Int)≤(i:Int):=by omega
   obtain ⟨g,⟨cp',hv⟩,hgl,k0,k1⟩:=HoldsO.at ((uh HH).below hb rfl) i (by omega);injection hv with hv hv2 hv3;subst hv hv3;clear hv2;have hsz:=hok (F[i]'(by omega)) (List.getElem_mem _);have HS:Hid (F.take (i+1)=F.take i ++ [F[i]'(by omega)]):=aa (List.take_succ_eq_append_getElem (by omega));have hLl:(F.take i).length≤i:=by rw [List.length_take];omega
   generalize F[i]'(by omega)=o at *;generalize F.take i=L at *;obtain ⟨kd,dt⟩:=o;dsimp only at k0 k1 hsz;have CS:=aa fun W=>iB kd dt W hsz
   clear ho hb HH hok;go_wp2_with fail
   refine (uh CS _).mono ?_;rintro e w5 ⟨rfl,hb5⟩;have HB5:=aa ((((uh HB).alloc hbs _)).trans (hb5.mono (zE hbs (by simp))));have HO5:=aa (aP ((uh HO).alloc _) hb5);have hbs5:=(uh HB5).size;clear hb5
   go_wp2_with (first
    | (at_builtin;refine cD rfl _ _ rfl w.heap.size (.slice ad L.length cp) L L.length rfl rfl (uh HO5) kd dt rfl (by omega) hbs5 ?_;rintro v6 w6 ho6 hg6;obtain ⟨a6,c6,rfl⟩:=af ho6))
   have hb6:Below w.heap.size w w6:=((uh HB5).alloc hbs5 _).grown hg6 (by simp;omega) (fun q hq=>(World.ownsRow.lt (uh HO5) q hq).1);go_roundw
   case rel=>exact ⟨i+1,a6,c6,by omega,by go_num,by rw [uh HS,List.length_append];rfl,by rw [uh HS,List.length_append];exact ho6,hb6⟩
   case measure=>simp [intOf];omega
  ·have e:i=n:=by omega
   subst e;have HT:Hid (F.take i=F):=aa (List.take_of_length_le (by omega));clear ho hb HH;go_wp2
   go_ret
   rw [uh HT] at HO ⊢;rw [hn] at HO ⊢;exact ⟨ad,cp,rfl,uh HO,uh HB⟩
theorem qB (now:Int) (w:World):Calls prog 83 #[.int .i64 now] w fun e w'=>e=.returned (.bool (al 0 1000000000 now))∧w'=w:=by
 have C:=aa (cE now 0 1000000000 w);go_enter func83,ntmps83
 go_wp2_with fail
 refine (uh C).mono ?_;rintro r ws ⟨rfl,hws⟩;replace hws:=hws.symm;subst hws;go_wp2
 go_ret
 exact ⟨rfl,rfl⟩
end Go.Proofs.YtjdgiimfpkideaaGreatDoor
