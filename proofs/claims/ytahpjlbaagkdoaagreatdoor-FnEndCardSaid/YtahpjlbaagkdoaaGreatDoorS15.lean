/- WkS OptMarks EndMk WkUp WkA OptAp2 -/
import Derived.Test.YtahpjlbaagkdoaaGreatDoorS10
set_option maxHeartbeats 8000000
set_option maxRecDepth 100000
namespace Go.Proofs.YtahpjlbaagkdoaaGreatDoor
open Go.RowKit Go.Proofs.Tryz
theorem wkNext (B:Nat) (cs:Array Value) (id:Int) (w:World) (hB:w.heap[B]?=some (.cells cs 89)) (hid:cs[15]?=some (.int .i64 id)) (h1:0≤id) (h2:id≤255) :
    Calls prog 122 #[.pointer (some ⟨B,0,none⟩)] w fun e w'=>e=.returned (.int .i64 ((id+1) % 256))∧w'=w.setCell ⟨B,15,none⟩ (.int .i64 ((id+1) % 256)):=by
  have c0:w.cell? ⟨B,15,none⟩=some (.int .i64 id):=by rw [cr hB];exact hid
  have f0:w.frozen? ⟨B,15,none⟩=false:=frz hB 15;have hm:(id+1).tmod 256=(id+1) % 256:=Int.tmod_eq_emod_of_nonneg (by omega);have c1:(w.setCell ⟨B,15,none⟩ (.int .i64 ((id+1) % 256))).cell? ⟨B,15,none⟩=some (.int .i64 ((id+1) % 256)):=by
    rw [cr (heap_setCell_same _ _ 15 _ _ _ hB),Array.getElem?_setIfInBounds,if_pos rfl,if_pos (ge.1 hid).1]
  clear hB hid;go_enter func122,ntmps122
  go_wp2
  go_ret
  exact ⟨rfl,rfl⟩
theorem specMax0 (y:Int) (w:World):Calls prog 139 #[.int .i64 0,.int .i64 y] w fun e w'=>e=.returned (.int .i64 (max 0 y))∧w'=w:=by
  by_cases h:0≤y
  · rw [Int.max_eq_right h]
    by_cases h0:y=0
    · subst h0
      go_enter func139,ntmps139
      go_wp2
      go_ret
      exact ⟨rfl,rfl⟩
    · have h1:0<y:=by omega
      go_enter func139,ntmps139
      go_wp2
      go_ret
      exact ⟨rfl,rfl⟩
  · rw [Int.max_eq_left (by omega)]
    have h1:y<0:=by omega
    have h2:¬ (0<y):=by omega
    go_enter func139,ntmps139
    go_wp2
    go_ret
    exact ⟨rfl,rfl⟩
theorem wkTry (B:Nat) (cs:Array Value) (tr du now:Int) (w:World) (hB:w.heap[B]?=some (.cells cs 89)) (h13:cs[13]?=some (.int .i64 tr)) (h14:cs[14]?=some (.int .i64 du)) (h30:cs[30]?=some (.int .i64 now)) (h1:0≤tr) (h2:tr≤5) (h3:0≤now) (h4:now≤1000000000) :
    Calls prog 123 #[.pointer (some ⟨B,0,none⟩)] w fun e w'=>e=.returned (.tuple #[])∧w'=(w.setCell ⟨B,13,none⟩ (.int .i64 (max 0 (tr - 1)))).setCell ⟨B,14,none⟩ (.int .i64 (now+3)):=by
  have c0:w.cell? ⟨B,13,none⟩=some (.int .i64 tr):=by rw [cr hB];exact h13
  have f0:w.frozen? ⟨B,13,none⟩=false:=frz hB 13;have hB1:=heap_setCell_same w B 13 _ _ (.int .i64 (max 0 (tr - 1))) hB;have c1:(w.setCell ⟨B,13,none⟩ (.int .i64 (max 0 (tr - 1)))).cell? ⟨B,30,none⟩=some (.int .i64 now):=by
    rw [cr hB1,Array.getElem?_setIfInBounds,if_neg (by decide)];exact h30
  have c2:(w.setCell ⟨B,13,none⟩ (.int .i64 (max 0 (tr - 1)))).cell? ⟨B,14,none⟩=some (.int .i64 du):=by
    rw [cr hB1,Array.getElem?_setIfInBounds,if_neg (by decide)];exact h14
  have f2:(w.setCell ⟨B,13,none⟩ (.int .i64 (max 0 (tr - 1)))).frozen? ⟨B,14,none⟩=false:=frz hB1 14;have C:=hide fun W=>specMax0 (tr - 1) W
  clear hB hB1 h13 h14 h30;generalize max 0 (tr - 1)=t2 at *;go_enter func123,ntmps123
  go_wp2_with (first | (go_at_call 139;refine (uh C _).mono ?_;rintro e w1 ⟨rfl,hw1⟩;replace hw1:=hw1.symm;subst hw1))
  exact Great.bodyPost_end0 rfl rfl ⟨rfl,rfl⟩
theorem wkPut (B base:Nat) (cs:Array Value) (vs:Value) (S:List Op.Pk) (cd id:Int) (dt:ByteArray) (w:World) (hB:w.heap[B]?=some (.cells cs 89)) (h37:cs[37]?=some vs) (hS:S.length≤1000) (ho:w.ownsRow base 35 3 vs S.length (pkcells S)) (hne:vs.ownBlock≠some B) (hbase:base≤w.heap.size) :
    Calls prog 121 #[.pointer (some ⟨B,0,none⟩),.int .i64 cd,.int .i64 id,.string dt] w fun e w'=>e=.returned (.tuple #[])∧∃ v w1,w'=w1.setCell ⟨B,37,none⟩ v∧w1.ownsRow base 35 3 v (S.length+1) (pkcells (S ++ [⟨cd,id,dt⟩]))∧(w.alloc (.cells #[.int .i64 cd,.int .i64 id,.string dt] 35)).grownBy w1 vs.ownBlock:=by
  have c0:w.cell? ⟨B,37,none⟩=some vs:=by rw [cr hB];exact h37
  obtain ⟨ad,cp,rfl⟩:=own_form ho;have HB:=hide (And.intro hB (And.intro h37 hne));have HO:=hide ho;have hl:B<w.heap.size:=(ge.1 hB).1;obtain ⟨n,hn⟩:∃ n,S.length=n:=⟨_,rfl⟩;clear hB h37 hne ho;rw [hn] at c0 HO hS HB ⊢;go_enter func121,ntmps121
  go_wp2_with (first
    | (at_builtin;refine append_pk rfl _ _ rfl base (.slice ad n cp) S n hn rfl (uh HO) cd id dt rfl hS hbase ?_;rintro v6 w6 ho6 hg6;obtain ⟨a6,c6,rfl⟩:=own_form ho6
       have e6:=(hg6.block B (by simp;omega) (fun e=>(uh HB).2.2 e.symm)).trans ((Below.heap_alloc _ _ _ hl).trans (uh HB).1);have k6:w6.cell? ⟨B,37,none⟩=some (.slice ad n cp):=by rw [cr e6];exact (uh HB).2.1
       have f6:w6.frozen? ⟨B,37,none⟩=false:=frz e6 37;clear e6))
  exact Great.bodyPost_end0 rfl rfl ⟨rfl,_,w6,rfl,ho6,hg6⟩
def mfd (k n:Nat):List Op.Opt:=(List.range n).map fun i=>⟨((k+2*i:Nat):Int),mtx (k+2*i+1)⟩
def nb (n:Nat) (v:Value):Option Nat:=if n=0 then none else v.ownBlock
theorem nb_none (v:Value):nb 0 v=none:=if_pos rfl
theorem nb_some {n:Nat} (h:n≠0) (v:Value):nb n v=v.ownBlock:=if_neg h
structure Wk (w:World) (B:Nat) (cs:List Value) (q:World):Prop where
 row:q.heap[B]?=some (.cells cs.toArray 89)
 nr:Nr B w q
theorem Wk.set {w:World} {B:Nat} {cs:List Value} {q:World} (h:Wk w B cs q) (i:Nat) (v:Value):Wk w B (cs.set i v) (q.setCell ⟨B,i,none⟩ v) :=
 ⟨by rw [← List.setIfInBounds_toArray];exact heap_setCell_same _ _ i _ _ v h.row,h.nr.setCell i v⟩
theorem Wk.step {w:World} {B:Nat} {cs:List Value} {q q':World} (h:Wk w B cs q) (hb:Below q.heap.size q q'):Wk w B cs q' :=
 ⟨(hb.block _ (ge.1 h.row).1).trans h.row,h.nr.of_below hb⟩
theorem Wk.cell {w:World} {B:Nat} {cs:List Value} {q:World} (h:Wk w B cs q) {i:Nat} {v:Value} (hi:cs[i]?=some v):q.cell? ⟨B,i,none⟩=some v:=by
 rw [cr h.row,List.getElem?_toArray];exact hi
theorem Wk.there {w:World} {B:Nat} {cs:List Value} {q:World} (h:Wk w B cs q) (i:Nat) (hi:i<cs.length):∃ v,q.cell? ⟨B,i,none⟩=some v:=⟨cs[i],h.cell (List.getElem?_eq_getElem hi)⟩
theorem HoldsO.nr {w q:World} {v:Value} {F:List Op.Opt} {B:Nat} (h:HoldsO w v F) (hn:Nr B w q) (hne:nb F.length v≠some B):HoldsO q v F:=by
 rcases h with ⟨ad,cp,e,e0⟩ | ⟨g,cp,cur,e,q1,q2⟩
 ·exact Or.inl ⟨ad,cp,e,e0⟩
 ·by_cases hz:F.length=0
  ·have:F=[]:=List.eq_nil_of_length_eq_zero hz
   subst this;exact Or.inl ⟨_,_,e,rfl⟩
  ·have hg:nb F.length v=some g:=by rw [nb_some hz,e];rfl
   exact Or.inr ⟨g,cp,cur,e,(hn.block g (ge.1 q1).1 (fun e=>hne (by rw [hg,e]))).trans q1,q2⟩
def upC (L1 L2:Ln) (cs:List Value):List Value:=(((((((((((((((((((((cs.set 19 (.bool true)).set 20 (.int .i64 0)).set 21 (.int .i64 0)).set 22 (.bool false)).set 23 (.bool false)).set 24 (.bool false)).set 25 (.int .i64 0)).set 26 (.int .i64 0)).set 27 (.bool false)).set 28 (.bool false)).set 29 (.bool false)).set 20 (.int .i64 L1.m)).set 21 (.int .i64 L1.a)).set 22 (.bool L1.p)).set 23 (.bool L1.c)).set 24 (.bool L1.d)).set 25 (.int .i64 L2.m)).set 26 (.int .i64 L2.a)).set 27 (.bool L2.p)).set 28 (.bool L2.c)).set 29 (.bool L2.d))
def downC (cs:List Value):List Value:=(((((((((((cs.set 19 (.bool false)).set 20 (.int .i64 0)).set 21 (.int .i64 0)).set 22 (.bool false)).set 23 (.bool false)).set 24 (.bool false)).set 25 (.int .i64 0)).set 26 (.int .i64 0)).set 27 (.bool false)).set 28 (.bool false)).set 29 (.bool false))
theorem wkDown (B:Nat) (cs:List Value) (w:World) (hl:cs.length=39) (hB:w.heap[B]?=some (.cells cs.toArray 89)) :
  Calls prog 127 #[.pointer (some ⟨B,0,none⟩),.bool false] w fun e w'=>e=.returned (.tuple #[])∧Wk w B (downC cs) w':=by
 have h0:Wk w B cs w:=⟨hB,Nr.refl _ _⟩;obtain ⟨o19,q19⟩:=h0.there 19 (by simp [hl]);have f19:w.frozen? ⟨B,19,none⟩=false:=frz h0.row 19;obtain ⟨o20,q20⟩:=h0.there 20 (by simp [hl]);have f20:w.frozen? ⟨B,20,none⟩=false:=frz h0.row 20;obtain ⟨o21,q21⟩:=h0.there 21 (by simp [hl]);have f21:w.frozen? ⟨B,21,none⟩=false:=frz h0.row 21;obtain ⟨o22,q22⟩:=h0.there 22 (by simp [hl]);have f22:w.frozen? ⟨B,22,none⟩=false:=frz h0.row 22;obtain ⟨o23,q23⟩:=h0.there 23 (by simp [hl]);have f23:w.frozen? ⟨B,23,none⟩=false:=frz h0.row 23;obtain ⟨o24,q24⟩:=h0.there 24 (by simp [hl]);have f24:w.frozen? ⟨B,24,none⟩=false:=frz h0.row 24;obtain ⟨o25,q25⟩:=h0.there 25 (by simp [hl]);have f25:w.frozen? ⟨B,25,none⟩=false:=frz h0.row 25;obtain ⟨o26,q26⟩:=h0.there 26 (by simp [hl]);have f26:w.frozen? ⟨B,26,none⟩=false:=frz h0.row 26;obtain ⟨o27,q27⟩:=h0.there 27 (by simp [hl]);have f27:w.frozen? ⟨B,27,none⟩=false:=frz h0.row 27;obtain ⟨o28,q28⟩:=h0.there 28 (by simp [hl]);have f28:w.frozen? ⟨B,28,none⟩=false:=frz h0.row 28;obtain ⟨o29,q29⟩:=h0.there 29 (by simp [hl]);have f29:w.frozen? ⟨B,29,none⟩=false:=frz h0.row 29;have H0:=hide h0;clear h0 hB;go_enter func127,ntmps127
 go_wp2
 exact Great.bodyPost_end0 rfl rfl ⟨rfl,((((((((((((uh H0).set 19 (.bool false)).set 20 (.int .i64 0)).set 21 (.int .i64 0)).set 22 (.bool false)).set 23 (.bool false)).set 24 (.bool false)).set 25 (.int .i64 0)).set 26 (.int .i64 0)).set 27 (.bool false)).set 28 (.bool false)).set 29 (.bool false))⟩
theorem wkUp (B:Nat) (cs:List Value) (x1 x2:Option Addr) (y1 y2:Nat) (M P:List Op.Opt) (w:World) (hl:cs.length=39) (hB:w.heap[B]?=some (.cells cs.toArray 89)) (h17:cs[17]?=some (.slice x1 M.length y1)) (h18:cs[18]?=some (.slice x2 P.length y2))
  (l1:M.length≤maxLen) (l2:P.length≤maxLen) (hm:HoldsO w (.slice x1 M.length y1) M) (hp:HoldsO w (.slice x2 P.length y2) P) (n1:nb M.length (.slice x1 M.length y1)≠some B) (n2:nb P.length (.slice x2 P.length y2)≠some B) :
  Calls prog 127 #[.pointer (some ⟨B,0,none⟩),.bool true] w fun e w'=>e=.returned (.tuple #[])∧Wk w B (upC (lineOf M) (lineOf P) cs) w':=by
 have h0:Wk w B cs w:=⟨hB,Nr.refl _ _⟩;have C1:=hide fun q (hn:Nr B w q)=>specLine _ M q l1 (hm.nr hn n1)
 have C2:=hide fun q (hn:Nr B w q)=>specLine _ P q l2 (hp.nr hn n2)
 clear hm hp n1 n2 l1 l2;generalize lineOf M=L1 at *;generalize lineOf P=L2 at *;generalize M.length=m1 at *;generalize P.length=m2 at *;have r17:w.cell? ⟨B,17,none⟩=some (.slice x1 m1 y1):=h0.cell (by (repeat rw [List.getElem?_set_ne (by decide)]);exact h17);obtain ⟨o19,q19⟩:=h0.there 19 (by simp [hl]);have f19:w.frozen? ⟨B,19,none⟩=false:=frz h0.row 19;obtain ⟨o20,q20⟩:=h0.there 20 (by simp [hl]);have f20:w.frozen? ⟨B,20,none⟩=false:=frz h0.row 20;obtain ⟨o21,q21⟩:=h0.there 21 (by simp [hl]);have f21:w.frozen? ⟨B,21,none⟩=false:=frz h0.row 21;obtain ⟨o22,q22⟩:=h0.there 22 (by simp [hl]);have f22:w.frozen? ⟨B,22,none⟩=false:=frz h0.row 22;obtain ⟨o23,q23⟩:=h0.there 23 (by simp [hl]);have f23:w.frozen? ⟨B,23,none⟩=false:=frz h0.row 23;obtain ⟨o24,q24⟩:=h0.there 24 (by simp [hl]);have f24:w.frozen? ⟨B,24,none⟩=false:=frz h0.row 24;obtain ⟨o25,q25⟩:=h0.there 25 (by simp [hl]);have f25:w.frozen? ⟨B,25,none⟩=false:=frz h0.row 25;obtain ⟨o26,q26⟩:=h0.there 26 (by simp [hl]);have f26:w.frozen? ⟨B,26,none⟩=false:=frz h0.row 26;obtain ⟨o27,q27⟩:=h0.there 27 (by simp [hl]);have f27:w.frozen? ⟨B,27,none⟩=false:=frz h0.row 27;obtain ⟨o28,q28⟩:=h0.there 28 (by simp [hl]);have f28:w.frozen? ⟨B,28,none⟩=false:=frz h0.row 28;obtain ⟨o29,q29⟩:=h0.there 29 (by simp [hl]);have f29:w.frozen? ⟨B,29,none⟩=false:=frz h0.row 29;have H0:=hide h0;clear h0 hB;go_enter func127,ntmps127
 go_wp2_with fail
 refine (uh C1 _ ((((((((((((uh H0).set 19 (.bool true)).set 20 (.int .i64 0)).set 21 (.int .i64 0)).set 22 (.bool false)).set 23 (.bool false)).set 24 (.bool false)).set 25 (.int .i64 0)).set 26 (.int .i64 0)).set 27 (.bool false)).set 28 (.bool false)).set 29 (.bool false)).nr).mono ?_;clear r17 q19 f19 q20 f20 q21 f21 q22 f22 q23 f23 q24 f24 q25 f25 q26 f26 q27 f27 q28 f28 q29 f29;rintro e w1 ⟨rfl,hb1⟩;have h1:=((((((((((((uh H0).set 19 (.bool true)).set 20 (.int .i64 0)).set 21 (.int .i64 0)).set 22 (.bool false)).set 23 (.bool false)).set 24 (.bool false)).set 25 (.int .i64 0)).set 26 (.int .i64 0)).set 27 (.bool false)).set 28 (.bool false)).set 29 (.bool false)).step hb1;have r18:w1.cell? ⟨B,18,none⟩=some (.slice x2 m2 y2):=h1.cell (by (repeat rw [List.getElem?_set_ne (by decide)]);exact h18);obtain ⟨o20,q20⟩:=h1.there 20 (by simp [hl]);have f20:w1.frozen? ⟨B,20,none⟩=false:=frz h1.row 20;obtain ⟨o21,q21⟩:=h1.there 21 (by simp [hl]);have f21:w1.frozen? ⟨B,21,none⟩=false:=frz h1.row 21;obtain ⟨o22,q22⟩:=h1.there 22 (by simp [hl]);have f22:w1.frozen? ⟨B,22,none⟩=false:=frz h1.row 22;obtain ⟨o23,q23⟩:=h1.there 23 (by simp [hl]);have f23:w1.frozen? ⟨B,23,none⟩=false:=frz h1.row 23;obtain ⟨o24,q24⟩:=h1.there 24 (by simp [hl]);have f24:w1.frozen? ⟨B,24,none⟩=false:=frz h1.row 24;have H1:=hide h1;clear h1 hb1 H0;go_wp2_with fail
 refine (uh C2 _ ((((((uh H1).set 20 (.int .i64 L1.m)).set 21 (.int .i64 L1.a)).set 22 (.bool L1.p)).set 23 (.bool L1.c)).set 24 (.bool L1.d)).nr).mono ?_;clear r18 q20 f20 q21 f21 q22 f22 q23 f23 q24 f24;rintro e w2 ⟨rfl,hb2⟩;have h2:=((((((uh H1).set 20 (.int .i64 L1.m)).set 21 (.int .i64 L1.a)).set 22 (.bool L1.p)).set 23 (.bool L1.c)).set 24 (.bool L1.d)).step hb2;obtain ⟨o25,q25⟩:=h2.there 25 (by simp [hl]);have f25:w2.frozen? ⟨B,25,none⟩=false:=frz h2.row 25;obtain ⟨o26,q26⟩:=h2.there 26 (by simp [hl]);have f26:w2.frozen? ⟨B,26,none⟩=false:=frz h2.row 26;obtain ⟨o27,q27⟩:=h2.there 27 (by simp [hl]);have f27:w2.frozen? ⟨B,27,none⟩=false:=frz h2.row 27;obtain ⟨o28,q28⟩:=h2.there 28 (by simp [hl]);have f28:w2.frozen? ⟨B,28,none⟩=false:=frz h2.row 28;obtain ⟨o29,q29⟩:=h2.there 29 (by simp [hl]);have f29:w2.frozen? ⟨B,29,none⟩=false:=frz h2.row 29;have H2:=hide h2;clear h2 hb2 H1;go_wp2
 exact Great.bodyPost_end0 rfl rfl ⟨rfl,((((((uh H2).set 25 (.int .i64 L2.m)).set 26 (.int .i64 L2.a)).set 27 (.bool L2.p)).set 28 (.bool L2.c)).set 29 (.bool L2.d))⟩
end Go.Proofs.YtahpjlbaagkdoaaGreatDoor
namespace Go.Proofs.YtahpjlbaagkdoaaGreatDoor
open Go.RowKit Go.Proofs.Tryz
theorem ttS:Tt 89:=⟨by decide,by decide,by decide⟩
section
variable {w0 w1:World} {B:Nat} {c:Cx} {s:St} {v1 v2 vs vt:Value} {q:World}
theorem sNext (h:Lay 89 w0 w1 B c s v1 v2 vs vt q) (hid:0≤s.e.id∧s.e.id≤255) :
    Calls prog 122 #[.pointer (some ⟨B,0,none⟩)] q fun r q'=>r=.returned (.int .i64 ((s.e.id+1) % 256))∧Lay 89 w0 w1 B c { s with e:=nextE s.e } v1 v2 vs vt q' :=
  (wkNext B _ s.e.id q h.row rfl hid.1 hid.2).mono fun _ _ ⟨h1,h2⟩=>⟨h1,h2 ▸ h.setRaw 15 _ (nextE s.e) rfl⟩
theorem sTry (h:Lay 89 w0 w1 B c s v1 v2 vs vt q) (htr:0≤s.e.tr∧s.e.tr≤5) (hn:0≤c.now∧c.now≤1000000000) :
    Calls prog 123 #[.pointer (some ⟨B,0,none⟩)] q fun r q'=>r=.returned (.tuple #[])∧Lay 89 w0 w1 B c { s with e:=tryE c.now s.e } v1 v2 vs vt q' :=
  (wkTry B _ s.e.tr s.e.du c.now q h.row rfl rfl rfl htr.1 htr.2 hn.1 hn.2).mono fun _ _ ⟨h1,h2⟩=>⟨h1,h2 ▸ (h.setRaw 13 _ { s.e with tr:=max 0 (s.e.tr - 1) } rfl).setRaw 14 _ (tryE c.now s.e) rfl⟩
theorem sPut (h:Lay 89 w0 w1 B c s v1 v2 vs vt q) (hn:s.sn.length≤1000) (cd id:Int) (dt:ByteArray) :
    Calls prog 121 #[.pointer (some ⟨B,0,none⟩),.int .i64 cd,.int .i64 id,.string dt] q fun r q'=>r=.returned (.tuple #[])∧∃ vs',Lay 89 w0 w1 B c (putS s cd id dt) v1 v2 vs' vt q':=by
  refine (wkPut B w1.heap.size _ vs s.sn cd id dt q h.row rfl hn h.os (own_ty h.os h.row h.tt.2.1) h.nr.size).mono ?_;rintro r q' ⟨h1,v,q2,rfl,ho,hg⟩;refine ⟨h1,v,h.put _ hg v _ ?_⟩;rw [List.length_append];exact ho
theorem sDown (h:Lay 89 w0 w1 B c s v1 v2 vs vt q) :
    Calls prog 127 #[.pointer (some ⟨B,0,none⟩),.bool false] q fun r q'=>r=.returned (.tuple #[])∧Lay 89 w0 w1 B c { s with e:=downE s.e } v1 v2 vs vt q':=by
  refine (wkDown B (wkC c s.e v1 v2 vs vt) q rfl h.row).mono ?_;rintro r q' ⟨h1,h2,h3⟩;refine ⟨h1,?_⟩;have e:downC (wkC c s.e v1 v2 vs vt)=wkC c (downE s.e) v1 v2 vs vt:=rfl;rw [e] at h2;exact h.ofNr h2 h3
theorem sIrc (h:Lay 89 w0 w1 B c s v1 v2 vs vt q) :
    Calls prog 90 #[.pointer (some ⟨B,0,none⟩),.string nIrc] q fun r q'=>r=.returned (.tuple #[])∧∃ v1 v2 vs vt,Lay 89 w0 w1 B c (doIrc s) v1 v2 vs vt q':=by
  have c13:=h.cell (i:=13) rfl;have f13:=h.frz 13;have HL:=hide h;clear h;go_enter func90,ntmps90
  go_wp2
  exact Great.bodyPost_end0 rfl rfl ⟨rfl,_,_,_,_,(uh HL).setRaw 13 _ _ rfl⟩
theorem sZrc (h:Lay 89 w0 w1 B c s v1 v2 vs vt q) :
    Calls prog 90 #[.pointer (some ⟨B,0,none⟩),.string nZrc] q fun r q'=>r=.returned (.tuple #[])∧∃ v1 v2 vs vt,Lay 89 w0 w1 B c (doZrc s) v1 v2 vs vt q':=by
  have c13:=h.cell (i:=13) rfl;have f13:=h.frz 13;have HL:=hide h;clear h;go_enter func90,ntmps90
  go_wp2
  exact Great.bodyPost_end0 rfl rfl ⟨rfl,_,_,_,_,(uh HL).setRaw 13 _ _ rfl⟩
theorem sStr (h:Lay 89 w0 w1 B c s v1 v2 vs vt q) {n:Nat} (hf:Fit n c s) (hn:n≤1000) :
    Calls prog 90 #[.pointer (some ⟨B,0,none⟩),.string nStr] q fun r q'=>r=.returned (.tuple #[])∧∃ v1 v2 vs vt,Lay 89 w0 w1 B c (doStr c s) v1 v2 vs vt q':=by
  have HF:=hide hf;have HL:=hide h;clear h hf;go_enter func90,ntmps90
  go_wp2_with fail
  refine (sNext (uh HL) (uh HF).id).mono ?_;rintro r q1 ⟨rfl,h1⟩;have HL1:=hide h1;clear h1;go_wp2_with fail
  refine (sPut (uh HL1) (Nat.le_trans (uh HF).sn hn) 5 _ _).mono ?_;rintro r q2 ⟨rfl,vs2,h2⟩;have HL2:=hide h2;clear h2;go_wp2_with fail
  refine (sTry (uh HL2) (uh HF).tr (uh HF).now).mono ?_;rintro r q3 ⟨rfl,h3⟩;go_wp2
  exact Great.bodyPost_end0 rfl rfl ⟨rfl,_,_,_,_,h3⟩
theorem sTls (h:Lay 89 w0 w1 B c s v1 v2 vs vt q) {n:Nat} (hf:Fit n c s) (hn:n≤1000) :
    Calls prog 90 #[.pointer (some ⟨B,0,none⟩),.string nTls] q fun r q'=>r=.returned (.tuple #[])∧∃ v1 v2 vs vt,Lay 89 w0 w1 B c (say nTls s) v1 v2 vs vt q':=by
  have c38:=h.cell (i:=38) rfl;obtain ⟨ad,cp,rfl⟩:=own_form h.ot;have hno:s.tl.length≤1000:=Nat.le_trans hf.tl hn;obtain ⟨k,hnn⟩:∃ k,s.tl.length=k:=⟨_,rfl⟩;have ho:=h.ot;rw [hnn] at c38 ho hno h;have HO:=hide ho;have HL:=hide h;clear h ho hf;go_enter func90,ntmps90
  go_wp2_with (first
    | (at_builtin;refine append_txt rfl _ _ rfl w1.heap.size (.slice ad k cp) s.tl k hnn rfl (uh HO) nTls rfl (by omega) (uh HL).nr.size ?_;rintro v6 w6 ho6 hg6;obtain ⟨a6,c6,rfl⟩:=own_form ho6
       have e6:=(hg6.block B (Nat.lt_of_lt_of_le (uh HL).lt (by simp)) (fun e=>(own_ty (uh HL).ot (uh HL).row (uh HL).tt.2.2) e.symm)).trans ((Below.heap_alloc _ _ _ (uh HL).lt).trans (uh HL).row);have k6:w6.cell? ⟨B,38,none⟩=some (.slice ad k cp):=by rw [cr e6];rfl
       have f6:w6.frozen? ⟨B,38,none⟩=false:=frz e6 38;clear e6))
  refine Great.bodyPost_end0 rfl rfl ⟨rfl,_,_,_,_,(uh HL).say _ hg6 _ _ ?_⟩;rw [List.length_append,hnn];exact ho6
theorem sTlf (h:Lay 89 w0 w1 B c s v1 v2 vs vt q) {n:Nat} (hf:Fit n c s) (hn:n≤1000) :
    Calls prog 90 #[.pointer (some ⟨B,0,none⟩),.string nTlf] q fun r q'=>r=.returned (.tuple #[])∧∃ v1 v2 vs vt,Lay 89 w0 w1 B c (say nTlf s) v1 v2 vs vt q':=by
  have c38:=h.cell (i:=38) rfl;obtain ⟨ad,cp,rfl⟩:=own_form h.ot;have hno:s.tl.length≤1000:=Nat.le_trans hf.tl hn;obtain ⟨k,hnn⟩:∃ k,s.tl.length=k:=⟨_,rfl⟩;have ho:=h.ot;rw [hnn] at c38 ho hno h;have HO:=hide ho;have HL:=hide h;clear h ho hf;go_enter func90,ntmps90
  go_wp2_with (first
    | (at_builtin;refine append_txt rfl _ _ rfl w1.heap.size (.slice ad k cp) s.tl k hnn rfl (uh HO) nTlf rfl (by omega) (uh HL).nr.size ?_;rintro v6 w6 ho6 hg6;obtain ⟨a6,c6,rfl⟩:=own_form ho6
       have e6:=(hg6.block B (Nat.lt_of_lt_of_le (uh HL).lt (by simp)) (fun e=>(own_ty (uh HL).ot (uh HL).row (uh HL).tt.2.2) e.symm)).trans ((Below.heap_alloc _ _ _ (uh HL).lt).trans (uh HL).row);have k6:w6.cell? ⟨B,38,none⟩=some (.slice ad k cp):=by rw [cr e6];rfl
       have f6:w6.frozen? ⟨B,38,none⟩=false:=frz e6 38;clear e6))
  refine Great.bodyPost_end0 rfl rfl ⟨rfl,_,_,_,_,(uh HL).say _ hg6 _ _ ?_⟩;rw [List.length_append,hnn];exact ho6
theorem sTld (h:Lay 89 w0 w1 B c s v1 v2 vs vt q) {n:Nat} (hf:Fit n c s) (hn:n≤1000) :
    Calls prog 90 #[.pointer (some ⟨B,0,none⟩),.string nTld] q fun r q'=>r=.returned (.tuple #[])∧∃ v1 v2 vs vt,Lay 89 w0 w1 B c (doTld s) v1 v2 vs vt q':=by
  have HF:=hide hf;have HL0:=hide h;clear h hf;go_enter func90,ntmps90
  go_wp2_with fail
  refine (sDown (uh HL0)).mono ?_;rintro r q1 ⟨rfl,h⟩;have c38:=h.cell (i:=38) rfl;obtain ⟨ad,cp,rfl⟩:=own_form h.ot;have hno:s.tl.length≤1000:=Nat.le_trans (uh HF).tl hn;obtain ⟨k,hnn⟩:∃ k,s.tl.length=k:=⟨_,rfl⟩;have ho:=h.ot;dsimp only at c38 ho h;rw [hnn] at c38 ho hno h;have HO:=hide ho;have HL:=hide h;clear h ho HF HL0
  go_wp2_with (first
    | (at_builtin;refine append_txt rfl _ _ rfl w1.heap.size (.slice ad k cp) s.tl k hnn rfl (uh HO) nTld rfl (by omega) (uh HL).nr.size ?_;rintro v6 w6 ho6 hg6;obtain ⟨a6,c6,rfl⟩:=own_form ho6
       have e6:=(hg6.block B (Nat.lt_of_lt_of_le (uh HL).lt (by simp)) (fun e=>(own_ty (uh HL).ot (uh HL).row (uh HL).tt.2.2) e.symm)).trans ((Below.heap_alloc _ _ _ (uh HL).lt).trans (uh HL).row);have k6:w6.cell? ⟨B,38,none⟩=some (.slice ad k cp):=by rw [cr e6];rfl
       have f6:w6.frozen? ⟨B,38,none⟩=false:=frz e6 38;clear e6))
  refine Great.bodyPost_end0 rfl rfl ⟨rfl,_,_,_,_,(uh HL).say _ hg6 _ _ ?_⟩;rw [List.length_append,hnn];exact ho6
theorem sScr (h:Lay 89 w0 w1 B c s v1 v2 vs vt q) {n:Nat} (hf:Fit n c s) (hn:n≤1000) :
    Calls prog 90 #[.pointer (some ⟨B,0,none⟩),.string nScr] q fun r q'=>r=.returned (.tuple #[])∧∃ v1 v2 vs vt,Lay 89 w0 w1 B c (doScr c s) v1 v2 vs vt q':=by
  have HF:=hide hf;obtain ⟨e1,e2,e3⟩:=cfgNat hf.ask;have CA:=hide fun W=>specL05 s.e.m2.toNat s.e.a2.toNat s.e.g2.toNat s.e.p2 s.e.c2 s.e.d2 W
  rw [e1,e2,e3] at CA;clear e1 e2 e3;have c6:=h.cell (i:=6) rfl;have c7:=h.cell (i:=7) rfl;have c8:=h.cell (i:=8) rfl;have c9:=h.cell (i:=9) rfl;have c10:=h.cell (i:=10) rfl;have c11:=h.cell (i:=11) rfl;have HL:=hide h;clear h hf;go_enter func90,ntmps90
  go_wp2_with fail
  refine (uh CA _).mono ?_;rintro r q1 ⟨_,rfl,ad,cp,rfl,ho,hb⟩;have h1:=(uh HL).step hb;have c17:=h1.cell (i:=17) rfl;have f17:=h1.frz 17;have HL1:=hide ((uh HL).new1 hb _ (askOf s.e) ho);clear h1 ho hb HL CA c6 c7 c8 c9 c10 c11;go_upto_region 10 with fail
  refine gen_world (fun z=>Lay 89 w0 w1 B c { s with F1:=askOf s.e } (.slice ad (askOf s.e).length cp) v2 vs vt z) ?_ ?_
  · exact uh HL1
  clear HL1 c17 f17;rintro z hz;have c17:=hz.cell (i:=17) rfl;have HZ:=hide (hz.step (Below.refl _ _).drew);clear hz;refine wp_region_held_drew (S:=fun z=>z.cell? ⟨B,17,none⟩=some (.slice ad (askOf s.e).length cp)) (by kernel_rfl) ?_ (fun hHeld=>?_)
  · exact c17
  refine t2 0 ?_;refine t2 1 ?_;refine t2 3 ?_;refine t2 4 ?_;refine t2 5 ?_;refine t2 6 ?_;refine t2 7 ?_;refine r1 2 rfl (fun K hK=>?_);go_simp;refine (sNext (uh HZ) (uh HF).id).mono ?_;rintro r z1 ⟨rfl,h1⟩;have HZ1:=hide h1;clear h1;go_wp2_with fail
  refine ro hK ?_ fun _=>?_
  · exact (uh HZ1).cell (i:=17) rfl
  clear hK K;refine r1 8 rfl (fun K hK=>?_);go_simp;refine (specL04 _ (askOf s.e) _ (opOk_right (askOf_ok s.e)) (HoldsO.own (uh HZ1).o1)).mono ?_;rintro r z2 ⟨rfl,hb2⟩;have HZ2:=hide ((uh HZ1).step hb2);clear hb2;go_wp2_with fail
  refine ro hK ?_ fun _=>?_
  · exact (uh HZ2).cell (i:=17) rfl
  clear hK K;refine r1 9 rfl (fun K hK=>?_);go_simp;refine (sPut (uh HZ2) (Nat.le_trans (uh HF).sn hn) 1 _ _).mono ?_;rintro r z3 ⟨rfl,vs3,h3⟩;have HP:=hide h3;clear h3;go_wp2_with fail
  refine ro hK ?_ fun _=>?_
  · exact (uh HP).cell (i:=17) rfl
  clear hK K;refine dn ?_ _;go_wp2_with fail
  refine (sTry (uh HP) (uh HF).tr (uh HF).now).mono ?_;rintro r q9 ⟨rfl,h9⟩;go_wp2
  exact Great.bodyPost_end0 rfl rfl ⟨rfl,_,_,_,_,h9⟩
end
end Go.Proofs.YtahpjlbaagkdoaaGreatDoor
namespace Go.Proofs.YtahpjlbaagkdoaaGreatDoor
open Go.RowKit Go.Proofs.Tryz
theorem append_opt_at {wr:World} {ops:Array Oper} {rest:List Oper} {o:Oper} {a:Act} {Q:Exit→Act→World→Prop} (hgd:o.guard=none) (s x:Operand)
  (ho:o.op=.call { callee:=.builtin .append,args:=#[s,x],argTypes:=#[25,25] })
  (base:Nat) (v:Value) (F:List Op.Opt) (n:Nat) (hn:F.length=n) (hs:a.eval s=v) (hown:wr.ownsRow base 116 2 v n (ocells F)) (kd:Int) (dt:ByteArray) (hx:a.eval x=.slice (some ⟨wr.heap.size,0,none⟩) 1 1) (hlen:n≤1000) (hbase:base≤wr.heap.size)
  (h:∀ v' w',w'.ownsRow base 116 2 v' (n+1) (ocells (F ++ [⟨kd,dt⟩]))→(wr.alloc (.cells #[.int .i64 kd,.string dt] 116)).grownBy w' v.ownBlock→(v'.ownBlock=v.ownBlock∨v'.ownBlock=some (wr.heap.size+1))→wpList prog ops Q rest (a.put o.dst v') w'):wpList prog ops Q (o :: rest) a (wr.alloc (.cells #[.int .i64 kd,.string dt] 116)):=by
 obtain ⟨i0,hi0,hz0,hz1,hz2⟩:=oinfo;refine wpList_append_own_at _ hgd s x 25 ho base 116 i0 _ 2 24 underlying25 hi0 hz0 hz1 hz2 rfl (by decide) v n (ocells F) hs (hown.alloc _) ⟨wr.heap.size,0,none⟩ 1 1 [.int .i64 kd,.string dt] hx rfl ?_ ?_ ?_ ?_ ?_ ?_
 ·intro i u hu;rw [Addr.add_lit,Nat.zero_add,World.cell?_alloc_at _ _ _ _ rfl,← hu];simp
 ·intro u hu;simp only [List.mem_cons,List.not_mem_nil,or_false] at hu;rcases hu with rfl | rfl<;>rfl
 ·unfold maxLen;omega
 ·omega
 ·simp;omega
 ·intro v' w2 hown2 hg2 _ hat;refine h v' w2 ?_ hg2 (by simpa using hat);rw [ocells_append];exact hown2
theorem ocells_one (F:List Op.Opt):∀ u ∈ ocells F,u.oneCell'=true:=by
 intro u hu;simp only [ocells,List.mem_flatMap,List.mem_cons,List.not_mem_nil,or_false] at hu;obtain ⟨f,_,rfl | rfl⟩:=hu<;>rfl
theorem run_append_od {W:World} {base:Nat} {v s:Value} {G F:List Op.Opt} (ty:TypeId) (hown:W.ownsRow base 116 2 v G.length (ocells G)) (hs:HoldsO W s F) (hG:G.length≤1048576) (hF:F.length≤1048576) (hbase:base≤W.heap.size) :
  ∃ v' W',(Builtin.append_ #[25,25] ty #[v,s]).run prog W=.ok v' W'∧W'.ownsRow base 116 2 v' (G ++ F).length (ocells (G ++ F))∧W.grownBy W' v.ownBlock:=by
 obtain ⟨i,hi,hz,hsz,hby⟩:=oinfo
 have key:∀ (a:Addr) (cp:Nat),s=.slice (some a) F.length cp→(∀ j u,(ocells F)[j]?=some u→W.cell? (a.add j)=some u) →
   ∃ v' W',(Builtin.append_ #[25,25] ty #[v,s]).run prog W=.ok v' W'∧W'.ownsRow base 116 2 v' (G ++ F).length (ocells (G ++ F))∧W.grownBy W' v.ownBlock:=by
  rintro a cp rfl hn
  obtain ⟨v',W',h1,h2,h3,_⟩:=run_append_own (P:=prog) W base 25 ty 116 i _ 2 24 underlying25 hi hz hsz hby rfl (by decide) v G.length (ocells G) hown a F.length cp (ocells F) (ocells_len F) hn (ocells_one F)
   (by unfold maxLen;omega) (by omega) hbase
  exact ⟨v',W',h1,by rw [List.length_append,ocells_append];exact h2,h3⟩
 rcases hs with ⟨ad,cp,rfl,rfl⟩ | ⟨g,cp,cur,rfl,hg,hg2,hg3⟩
 ·cases ad with
  | some a=>exact key a cp rfl (fun j u h=>by cases h)
  | none =>
   refine ⟨v,W,?_,by rw [List.append_nil];exact hown,⟨rfl,rfl,rfl,Nat.le_refl _,fun _ _ _=>rfl⟩⟩;rcases hown.2 with ⟨rfl,_⟩ | ⟨g,cap,cur,rfl,_,_,hnc,_⟩
   ·simp [Builtin.append_,run_underlying underlying25,sizeOf,typeInfo,hi,Builtin.lenOf,Builtin.firstCells]
   ·simp [Builtin.append_,run_underlying underlying25,sizeOf,typeInfo,hi,Builtin.lenOf,Builtin.firstCells,hnc,storeCells]
 ·refine key ⟨g,0,none⟩ cp rfl (fun j u h=>?_);have hadd:(⟨g,0,none⟩:Addr).add j=⟨g,j,none⟩:=by unfold Addr.add;split<;>simp_all
  rw [hadd,cr hg,hg3 j (by have:=(List.getElem?_eq_some_iff.1 h).1;rw [ocells_len] at this;exact this)];exact h
theorem append_od {W:World} {ops:Array Oper} {rest:List Oper} {o:Oper} {a:Act} {Q:Exit→Act→World→Prop} (hgd:o.guard=none) (s x:Operand)
  (ho:o.op=.call { callee:=.builtin .append,args:=#[s,x],argTypes:=#[25,25] })
  (base:Nat) (v sv:Value) (G F:List Op.Opt) (hs:a.eval s=v) (hx:a.eval x=sv) (hown:W.ownsRow base 116 2 v G.length (ocells G)) (hsv:HoldsO W sv F) (hG:G.length≤1048576) (hF:F.length≤1048576) (hbase:base≤W.heap.size)
  (h:∀ v' w',w'.ownsRow base 116 2 v' (G ++ F).length (ocells (G ++ F))→W.grownBy w' v.ownBlock→wpList prog ops Q rest (a.put o.dst v') w'):wpList prog ops Q (o :: rest) a W:=by
 refine wpList_plain hgd fun K hK=>?_
 obtain ⟨v',w',hr,h2,h3⟩:=run_append_od (W:=W) o.type hown hsv hG hF hbase;unfold Oper.wp execOp;simp only [ho,resolve,invoke,builtin,Sem.run_bind,Sem.run_pure,Result.andThen_ok,List.map_toArray,List.map_cons,List.map_nil,hs,hx,hr];exact hK _ _ (h v' w' h2 h3)
theorem own_blk {w w':World} {base:Nat} {e:TypeId} {size:Nat} {v:Value} {n:Nat} {xs:List Value} (h:w.ownsRow base e size v n xs) (hb:∀ g,v.ownBlock=some g→w'.heap[g]?=w.heap[g]?):w'.ownsRow base e size v n xs :=
 ⟨h.1,h.2.imp id fun ⟨g,cap,cur,h1,h2,h3,h4⟩=>⟨g,cap,cur,h1,h2,(hb g (by rw [h1];rfl)).trans h3,h4⟩⟩
end Go.Proofs.YtahpjlbaagkdoaaGreatDoor
