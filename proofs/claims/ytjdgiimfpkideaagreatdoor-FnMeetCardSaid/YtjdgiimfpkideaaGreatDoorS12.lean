/- WkS WkUp ReadAs WpI StrO EndOm PkQ MtW MtE LwOpt SrcNew Edge SrcBytes RfW MtJ EndNi -/
import Derived.Test.YtjdgiimfpkideaaGreatDoorS05
import Derived.RangeFuncWrites
import Derived.RangeFuncCalls
import Derived.OrdersIn
import Derived.Test.YtjdgiimfpkideaaGreatDoorS08
set_option maxHeartbeats 8000000
set_option maxRecDepth 100000
namespace Go.Proofs.YtjdgiimfpkideaaGreatDoor
open Go.RowKit Go.Proofs.Tryz
variable {w q q' w' W W':World} {B i n base g k cp l D:Nat} {cs X Z:List Value} {v v':Value} {F:List Op.Pk} {md:Region.Mode} {ops:Array Oper} {P:Program} {Q:Exit->Act->World->Prop} {a:Act} {o:Option Nat} {p:Op.Pk} {T:TypeId} {r:LoopState->Loop} {st:LoopState} {ps:Array Tmp} {assign body:Code} {J:World->Prop} {K:Act->World->Prop}
theorem uT(B:Nat)(cs:Array Value)(id:Int)(w:World)(hB:w.heap[B]?=some (.cells cs 99))(hid:cs[15]?=some (id:V))(h1:0<=id)(h2:id<=255):Calls prog 101 #[(B,0)] w fun e w'=>e=.returned (.int .i64 ((id+1)%256))/\w'=w.setCell (B,15) (.int .i64 ((id+1)%256)):=by
 have c0:w.cell? (B,15)=some (.int .i64 id):=by rw[cr hB];exact hid
 have f0:w.frozen? (B,15)=false:=aX hB 15;have hm:(id+1).tmod 256=(id+1)%256:=Int.tmod_eq_emod_of_nonneg (by omega);have c1:(w.setCell (B,15) (.int .i64 ((id+1)%256))).cell? (B,15)=some (.int .i64 ((id+1)%256)):=by
  rw[cr (zH _ _ 15 _ _ _ hB),Array.getElem?_setIfInBounds,if_pos rfl,if_pos (ge.1 hid).1]
 clear hB hid;go_enter func101,ntmps101
 go_wp2
 go_ret
 exact⟨rfl,rfl⟩
theorem qg(y:Int)(w:World):Calls prog 127 #[(0:Int),y] w fun e w'=>e=.returned (.int .i64 (max 0 y))/\w'=w:=by
 by_cases h:0<=y
 .rw [Int.max_eq_right h];by_cases h0:y=0
  .subst h0;go_enter func127,ntmps127
   go_wp2
   go_ret
   exact⟨rfl,rfl⟩
  .have h1:0<y:=by omega
   go_enter func127,ntmps127
   go_wp2
   go_ret
   exact⟨rfl,rfl⟩
 .rw [Int.max_eq_left (by omega)];have h1:y<0:=by omega
  have h2:¬(0<y):=by omega
  go_enter func127,ntmps127
  go_wp2
  go_ret
  exact⟨rfl,rfl⟩
theorem wT(B:Nat)(cs:Array Value)(tr du now:Int)(w:World)(hB:w.heap[B]?=some (.cells cs 99))(h13:cs[13]?=some (tr:V))(h14:cs[14]?=some (du:V))(h30:cs[30]?=some (now:V))(h1:0<=tr)(h2:tr<=5)(h3:0<=now)(h4:now<=1000000000):Calls prog 102 #[(B,0)] w fun e w'=>e=.returned (.tuple #[])/\w'=(w.setCell (B,13) (.int .i64 (max 0 (tr-1)))).setCell (B,14) (.int .i64 (now+3)):=by
 have c0:w.cell? (B,13)=some (.int .i64 tr):=by rw[cr hB];exact h13
 have f0:w.frozen? (B,13)=false:=aX hB 13;have hB1:=zH w B 13 _ _ (.int .i64 (max 0 (tr-1))) hB;have c1:(w.setCell (B,13) (.int .i64 (max 0 (tr-1)))).cell? (B,30)=some (.int .i64 now):=by
  rw[cr hB1,Array.getElem?_setIfInBounds,if_neg (by decide)];exact h30
 have c2:(w.setCell (B,13) (.int .i64 (max 0 (tr-1)))).cell? (B,14)=some (.int .i64 du):=by
  rw[cr hB1,Array.getElem?_setIfInBounds,if_neg (by decide)];exact h14
 have f2:(w.setCell (B,13) (.int .i64 (max 0 (tr-1)))).frozen? (B,14)=false:=aX hB1 14;have C:=aa fun W=>qg (tr-1) W
 clear hB hB1 h13 h14 h30;generalize max 0 (tr-1)=t2 at*;go_enter func102,ntmps102
 go_wp2_with (first|(go_at_call 127;refine cq (uh C _) ?_))
 exact Great.bodyPost_end0 rfl rfl ⟨rfl,rfl⟩
theorem wU(B base:Nat)(cs:Array Value)(vs:Value)(S:List Op.Pk)(cd id:Int)(dt:ByteArray)(w:World)(hB:w.heap[B]?=some (.cells cs 99))(h37:cs[37]?=some vs)(hS:S.length<=1000)(ho:w.ownsRow base 85 3 vs S.length (ae S))(hne:vs.ownBlock≠some B)(hbase:base<=w.heap.size):Calls prog 100 #[(B,0),cd,id,dt] w fun e w'=>e=.returned (.tuple #[])/\∃v w1,w'=w1.setCell (B,37) v/\w1.ownsRow base 85 3 v (S.length+1) (ae (S++[⟨cd,id,dt⟩]))/\(w.alloc (.cells #[cd,id,dt] 85)).grownBy w1 vs.ownBlock:=by
 have c0:w.cell? (B,37)=some vs:=by rw[cr hB];exact h37
 obtain⟨ad,cp,rfl⟩:=af ho;have HB:=aa (zA hB (zA h37 hne));have HO:=aa ho;have hl:B<w.heap.size:=(ge.1 hB).1;obtain⟨n,hn⟩ := ex S.length;clear hB h37 hne ho;rw[hn]at c0 HO hS HB|-;go_enter func100,ntmps100
 go_wp2_with (first
  | (at_builtin;refine jL rfl _ _ rfl base (ad,n,cp) S n hn rfl HO.out cd id dt rfl hS hbase ?_;rintro v6 w6 ho6 hg6;obtain⟨a6,c6,rfl⟩:=af ho6
     have e6:=(hg6.block B (by simp;omega) (fun e=>HB.out.2.2 e.symm)).trans ((zG _ _ _ hl).trans HB.out.1);have k6:w6.cell? (B,37)=some (.slice ad n cp):=by rw[cr e6];exact HB.out.2.1
     have f6:w6.frozen? (B,37)=false:=aX e6 37;clear e6))
 exact Great.bodyPost_end0 rfl rfl ⟨rfl,_,w6,rfl,ho6,hg6⟩
structure Wk(w:World)(B:Nat)(cs:List Value)(q:World):Prop where
 row:q.heap[B]?=some (.cells cs.toArray 99)
 nr:Nr B w q
theorem Wk.set(h:Wk w B cs q)(i:Nat)(v:Value):Wk w B (cs.set i v) (q.setCell (B,i) v) :=
 ⟨by rw[<- List.setIfInBounds_toArray];exact zH _ _ i _ _ v h.row,h.nr.setCell i v⟩
theorem Wk.step(h:Wk w B cs q)(hb:Below q q q'):Wk w B cs q' :=
 ⟨(hb.block _ (ge.1 h.row).1).trans h.row,h.nr.of_below hb⟩
theorem Wk.cell(h:Wk w B cs q)(hi:cs[i]?=some v):q.cell? (B,i)=some v:=by
 rw[cr h.row,List.getElem?_toArray];exact hi
theorem Wk.there(h:Wk w B cs q)(i:Nat)(hi:i<cs.length):∃v,q.cell? (B,i)=some v:=⟨cs[i],h.cell (List.getElem?_eq_getElem hi)⟩
theorem HoldsO.nr{F:List Op.Opt}(h:HoldsO w v F)(hn:Nr B w q)(hne:nb F.length v≠some B):HoldsO q v F:=by
 rcases h with⟨ad,cp,e,e0⟩|⟨g,cp,cur,e,q1,q2⟩
 .exact Or.inl ⟨ad,cp,e,e0⟩
 .by_cases hz:F.length=0
  .have:F=[]:=List.eq_nil_of_length_eq_zero hz
   subst this;exact Or.inl ⟨_,_,e,rfl⟩
  .have hg:nb F.length v=some g:=by rw[dC hz,e];rfl
   exact Or.inr ⟨g,cp,cur,e,(hn.block g (ge.1 q1).1 (fun e=>hne (by rw[hg,e]))).trans q1,q2⟩
def yK(L1 L2:Ln)(cs:List Value):List Value:=(((((((((((((((((((((cs.set 19 true).set 20 (0:Int)).set 21 (0:Int)).set 22 false).set 23 false).set 24 false).set 25 (0:Int)).set 26 (0:Int)).set 27 false).set 28 false).set 29 false).set 20 L1.m).set 21 L1.a).set 22 L1.p).set 23 L1.c).set 24 L1.d).set 25 L2.m).set 26 L2.a).set 27 L2.p).set 28 L2.c).set 29 L2.d)
def tH(cs:List Value):List Value:=(((((((((((cs.set 19 false).set 20 (0:Int)).set 21 (0:Int)).set 22 false).set 23 false).set 24 false).set 25 (0:Int)).set 26 (0:Int)).set 27 false).set 28 false).set 29 false)
theorem uU(B:Nat)(cs:List Value)(w:World)(hl:cs.length=39)(hB:w.heap[B]?=some (.cells cs.toArray 99)):Calls prog 107 #[(B,0),false] w fun e w'=>e=.returned (.tuple #[])/\Wk w B (tH cs) w':=by
 have h0:Wk w B cs w:=⟨hB,Nr.refl _ _⟩;obtain⟨o19,q19⟩:=h0.there 19 (by simp[hl]);have f19:w.frozen? (B,19)=false:=aX h0.row 19;obtain⟨o20,q20⟩:=h0.there 20 (by simp[hl]);have f20:w.frozen? (B,20)=false:=aX h0.row 20;obtain⟨o21,q21⟩:=h0.there 21 (by simp[hl]);have f21:w.frozen? (B,21)=false:=aX h0.row 21;obtain⟨o22,q22⟩:=h0.there 22 (by simp[hl]);have f22:w.frozen? (B,22)=false:=aX h0.row 22;obtain⟨o23,q23⟩:=h0.there 23 (by simp[hl]);have f23:w.frozen? (B,23)=false:=aX h0.row 23;obtain⟨o24,q24⟩:=h0.there 24 (by simp[hl]);have f24:w.frozen? (B,24)=false:=aX h0.row 24;obtain⟨o25,q25⟩:=h0.there 25 (by simp[hl]);have f25:w.frozen? (B,25)=false:=aX h0.row 25;obtain⟨o26,q26⟩:=h0.there 26 (by simp[hl]);have f26:w.frozen? (B,26)=false:=aX h0.row 26;obtain⟨o27,q27⟩:=h0.there 27 (by simp[hl]);have f27:w.frozen? (B,27)=false:=aX h0.row 27;obtain⟨o28,q28⟩:=h0.there 28 (by simp[hl]);have f28:w.frozen? (B,28)=false:=aX h0.row 28;obtain⟨o29,q29⟩:=h0.there 29 (by simp[hl]);have f29:w.frozen? (B,29)=false:=aX h0.row 29;have H0:=aa h0;clear h0 hB;go_enter func107,ntmps107
 go_wp2
 exact Great.bodyPost_end0 rfl rfl ⟨rfl,(((((((((((H0.out.set 19 false).set 20 (0:Int)).set 21 (0:Int)).set 22 false).set 23 false).set 24 false).set 25 (0:Int)).set 26 (0:Int)).set 27 false).set 28 false).set 29 false)⟩
theorem yL(B:Nat)(cs:List Value)(x1 x2:Option Addr)(y1 y2:Nat)(M P:List Op.Opt)(w:World)(hl:cs.length=39)(hB:w.heap[B]?=some (.cells cs.toArray 99))(h17:cs[17]?=some ((x1,M.length,y1):V))(h18:cs[18]?=some ((x2,P.length,y2):V))(l1:M.length<=maxLen)(l2:P.length<=maxLen)(hm:HoldsO w (x1,M.length,y1) M)(hp:HoldsO w (x2,P.length,y2) P)(n1:nb M.length (.slice x1 M.length y1)≠some B)(n2:nb P.length (.slice x2 P.length y2)≠some B):Calls prog 107 #[(B,0),true] w fun e w'=>e=.returned (.tuple #[])/\Wk w B (yK (iJ M) (iJ P) cs) w':=by
 have h0:Wk w B cs w:=⟨hB,Nr.refl _ _⟩;have C1:=aa fun q (hn:Nr B w q)=>zZ _ M q l1 (hm.nr hn n1)
 have C2:=aa fun q (hn:Nr B w q)=>zZ _ P q l2 (hp.nr hn n2)
 clear hm hp n1 n2 l1 l2;generalize iJ M=L1 at*;generalize iJ P=L2 at*;generalize M.length=m1 at*;generalize P.length=m2 at*;have r17:w.cell? (B,17)=some (.slice x1 m1 y1):=h0.cell (by(repeat rw[List.getElem?_set_ne (by decide)]);exact h17);obtain⟨o19,q19⟩:=h0.there 19 (by simp[hl]);have f19:w.frozen? (B,19)=false:=aX h0.row 19;obtain⟨o20,q20⟩:=h0.there 20 (by simp[hl]);have f20:w.frozen? (B,20)=false:=aX h0.row 20;obtain⟨o21,q21⟩:=h0.there 21 (by simp[hl]);have f21:w.frozen? (B,21)=false:=aX h0.row 21;obtain⟨o22,q22⟩:=h0.there 22 (by simp[hl]);have f22:w.frozen? (B,22)=false:=aX h0.row 22;obtain⟨o23,q23⟩:=h0.there 23 (by simp[hl]);have f23:w.frozen? (B,23)=false:=aX h0.row 23;obtain⟨o24,q24⟩:=h0.there 24 (by simp[hl]);have f24:w.frozen? (B,24)=false:=aX h0.row 24;obtain⟨o25,q25⟩:=h0.there 25 (by simp[hl]);have f25:w.frozen? (B,25)=false:=aX h0.row 25;obtain⟨o26,q26⟩:=h0.there 26 (by simp[hl]);have f26:w.frozen? (B,26)=false:=aX h0.row 26;obtain⟨o27,q27⟩:=h0.there 27 (by simp[hl]);have f27:w.frozen? (B,27)=false:=aX h0.row 27;obtain⟨o28,q28⟩:=h0.there 28 (by simp[hl]);have f28:w.frozen? (B,28)=false:=aX h0.row 28;obtain⟨o29,q29⟩:=h0.there 29 (by simp[hl]);have f29:w.frozen? (B,29)=false:=aX h0.row 29;have H0:=aa h0;clear h0 hB;go_enter func107,ntmps107
 go_wp2_with fail
 refine(uh C1 _ (((((((((((H0.out.set 19 true).set 20 (0:Int)).set 21 (0:Int)).set 22 false).set 23 false).set 24 false).set 25 (0:Int)).set 26 (0:Int)).set 27 false).set 28 false).set 29 false).nr).mono ?_;clear r17 q19 f19 q20 f20 q21 f21 q22 f22 q23 f23 q24 f24 q25 f25 q26 f26 q27 f27 q28 f28 q29 f29;rintro e w1⟨rfl,hb1⟩;have h1:=(((((((((((H0.out.set 19 true).set 20 (0:Int)).set 21 (0:Int)).set 22 false).set 23 false).set 24 false).set 25 (0:Int)).set 26 (0:Int)).set 27 false).set 28 false).set 29 false).step hb1;have r18:w1.cell? (B,18)=some (.slice x2 m2 y2):=h1.cell (by(repeat rw[List.getElem?_set_ne (by decide)]);exact h18);obtain⟨o20,q20⟩:=h1.there 20 (by simp[hl]);have f20:w1.frozen? (B,20)=false:=aX h1.row 20;obtain⟨o21,q21⟩:=h1.there 21 (by simp[hl]);have f21:w1.frozen? (B,21)=false:=aX h1.row 21;obtain⟨o22,q22⟩:=h1.there 22 (by simp[hl]);have f22:w1.frozen? (B,22)=false:=aX h1.row 22;obtain⟨o23,q23⟩:=h1.there 23 (by simp[hl]);have f23:w1.frozen? (B,23)=false:=aX h1.row 23;obtain⟨o24,q24⟩:=h1.there 24 (by simp[hl]);have f24:w1.frozen? (B,24)=false:=aX h1.row 24;have H1:=aa h1;clear h1 hb1 H0;go_wp2_with fail
 refine(uh C2 _ (((((H1.out.set 20 L1.m).set 21 L1.a).set 22 L1.p).set 23 L1.c).set 24 L1.d).nr).mono ?_;clear r18 q20 f20 q21 f21 q22 f22 q23 f23 q24 f24;rintro e w2⟨rfl,hb2⟩;have h2:=(((((H1.out.set 20 L1.m).set 21 L1.a).set 22 L1.p).set 23 L1.c).set 24 L1.d).step hb2;obtain⟨o25,q25⟩:=h2.there 25 (by simp[hl]);have f25:w2.frozen? (B,25)=false:=aX h2.row 25;obtain⟨o26,q26⟩:=h2.there 26 (by simp[hl]);have f26:w2.frozen? (B,26)=false:=aX h2.row 26;obtain⟨o27,q27⟩:=h2.there 27 (by simp[hl]);have f27:w2.frozen? (B,27)=false:=aX h2.row 27;obtain⟨o28,q28⟩:=h2.there 28 (by simp[hl]);have f28:w2.frozen? (B,28)=false:=aX h2.row 28;obtain⟨o29,q29⟩:=h2.there 29 (by simp[hl]);have f29:w2.frozen? (B,29)=false:=aX h2.row 29;have H2:=aa h2;clear h2 hb2 H1;go_wp2
 exact Great.bodyPost_end0 rfl rfl ⟨rfl,(((((H2.out.set 25 L2.m).set 26 L2.a).set 27 L2.p).set 28 L2.c).set 29 L2.d)⟩
theorem oM(w:World)(o o':Obj):({w.alloc o with heap:=(w.alloc o).heap.setIfInBounds w o'}:World)=w.alloc o':=by
 unfold World.alloc;congr 1
 simp only[Array.push];simp[Array.setIfInBounds]
theorem iD(w:World)(es:Array MapEntry)(c:Nat)(k:Int)(v:Value)(hf:Instr.findNow (.int .i64) k es.toList 0=some none):(Instr.mapUpdate 246 (.map (some w.heap.size)) k v).run prog (w.alloc (.map es c))=.ok () (w.alloc (.map (es.push {key:=.int .i64 k,val:=v,born:=c}) (c+1))):=by
 have hb:=(MapKept.heap_alloc w (.map es c)).1;unfold Instr.mapUpdate;simp only[Sem.run_bind,run_underlying underlying246,MapKept.run_getObj_map hb,MapKept.run_checkKey underlying248 (d:=.int .i64) (k:=.int .i64 k) (by trivial),MapKept.run_findKey underlying248 hf,Result.andThen];rw[MapKept.run_setObj_map _ hb,oM]
theorem e_(w:World)(M:Nat)(es:Array MapEntry)(c i:Nat)(k:Int)(v:Value)(hb:w.heap[M]?=some (.map es c))(hf:Instr.findNow (.int .i64) k es.toList 0=some (some (i,v))):(Instr.lookup 246 (.map (some M)) k false).run prog w=.ok v w:=by
 unfold Instr.lookup;simp only[Sem.run_bind,Sem.run_pure,run_underlying underlying246,MapKept.run_getObj_map hb,MapKept.run_checkKey underlying248 (d:=.int .i64) (k:=.int .i64 k) (by trivial),MapKept.run_findKey underlying248 hf,Result.andThen];rfl
abbrev eE(f:Nat):Value:=.func (.func f) #[] #[]
def cW:Array MapEntry:=#[{key:=.int .i64 0,val:=eE 211,born:=0},{key:=.int .i64 1,val:=eE 212,born:=1},{key:=.int .i64 2,val:=eE 213,born:=2},{key:=.int .i64 3,val:=eE 214,born:=3}]
theorem fC(w:World):Calls prog 204 #[] w fun e w'=>e=.returned (.map (some w.heap.size))/\w'=w.alloc (.map cW 4):=by
 have hmm:=@run_makeMap prog;have h0:=iD w #[] 0 0 (eE 211) rfl;have h1:=iD w #[{key:=.int .i64 0,val:=eE 211,born:=0}] 1 1 (eE 212) rfl;have h2:=iD w #[{key:=.int .i64 0,val:=eE 211,born:=0},{key:=.int .i64 1,val:=eE 212,born:=1}] 2 2 (eE 213) rfl;have h3:=iD w #[{key:=.int .i64 0,val:=eE 211,born:=0},{key:=.int .i64 1,val:=eE 212,born:=1},{key:=.int .i64 2,val:=eE 213,born:=2}] 3 3 (eE 214) rfl;simp only[List.push_toArray,List.cons_append,List.nil_append]at h0 h1 h2 h3;go_enter func204,ntmps204
 go_wp2
 go_ret
 exact⟨rfl,rfl⟩
theorem A_:∀(L:List Bool)(i:Nat),L[i]?=some false->(L.set i true).count false+1=L.count false
 | [],_,h=>by simp at h
 | b::L,0,h=>by
  simp at h;subst h;simp
 | b::L,i+1,h=>by
  have:=A_ L i (by simpa using h)
  simp only[List.set_cons_succ,List.count_cons];omega
def AG(ops:Array Oper):Bool:=(List.range ops.size).all fun i=>match ops[i]? with|some o=>o.after.all fun e=>decide (e.on<i)|none=>true
def pg(md:Region.Mode)(ops:Array Oper)(L:Array Bool)(i:Nat):Bool:=match ops[i]? with|some o=>o.after.all fun e=>!Region.binds md e||L.getD e.on false|none=>true
theorem At:∀(L:List Bool),L.count false≠0->∃i:Nat,L[i]?=some false/\∀j:Nat,j<i->L[j]?=some true
 | [],h=>by simp at h
 | false::L,_=>⟨0,rfl,fun j hj=>absurd hj (Nat.not_lt_zero _)⟩
 | true::L,h=>by
  obtain⟨i,h1,h2⟩:=At L (by simpa using h);refine⟨i+1,by simpa using h1,fun j hj=>?_⟩;cases j with
  | zero=>rfl
  | succ j=>simpa using h2 j (by omega)
theorem B3{L:Array Bool}(ha:AG ops=true)(hsz:L.size=ops.size)(h:L.toList.count false≠0):Region.ready md ops L≠[]:=by
 obtain⟨i,h1,h2⟩:=At _ h;have hi:i<ops.size:=by
  rw[<- hsz];have:=(List.getElem?_eq_some_iff.1 h1).1
  simpa using this
 refine List.ne_nil_of_mem (a:=i) (mem_ready.2 ⟨?_,ops[i],Array.getElem?_eq_getElem hi,fun e he _=>?_⟩)
 .rw [Array.getElem?_toList]at h1;simp[h1]
 .have:=List.all_eq_true.1 ha i (List.mem_range.2 hi)
  rw[Array.getElem?_eq_getElem hi]at this;have:=of_decide_eq_true (Array.all_eq_true_iff_forall_mem.1 this e he)
  have:=h2 e.on this
  rw[Array.getElem?_toList]at this;simp[this]
theorem Ba(I:Array Bool->Act->World->Prop)(hd:∀L a w,I L a w->L.toList.count false=0->Q .normal a w)(ha:AG ops=true)(hs:∀L a w i,I L a w->i<ops.size->L[i]?=some false->pg md ops L i=true->wpOp P ops Q i (fun a' w'=>I (L.setIfInBounds i true) a' w') a w):∀(fuel:Nat)(L:Array Bool)(a:Act)(w:World),I L a w->L.size=ops.size->L.toList.count false<=fuel->wpAny P md ops Q fuel L a w
 | 0,L,a,w,h,hsz,hc=>by
  have h0:L.toList.count false=0:=by omega
  refine⟨?_,hd L a w h h0⟩;refine List.eq_nil_iff_forall_not_mem.2 fun j hj=>?_
  obtain⟨h1,_⟩:=mem_ready.1 hj;rw[List.count_eq_zero]at h0;apply h0
  by_cases hl:j<L.size
  .have:L[j]=false:=by simpa[hl]using h1
   rw[<- this];exact Array.mem_toList_iff.2 (Array.getElem_mem hl)
  .simp [Nat.not_lt.1 hl]at h1
 | fuel+1,L,a,w,h,hsz,hc=>by
  refine⟨fun hr=>?_,fun i hi=>?_⟩
  .by_cases h0:L.toList.count false=0
   .exact hd L a w h h0
   .exact absurd hr (B3 ha hsz h0)
  .obtain ⟨h1,o,ho,h2⟩:=mem_ready.1 hi;have h3:L[i]?=some false:=by
    by_cases hl:i<L.size
    .rw [Array.getElem?_eq_getElem hl];simpa[hl]using h1
    .simp [Nat.not_lt.1 hl]at h1
   refine wpOp_mono (fun a' w' h4=>Ba I hd ha hs fuel _ a' w' h4 (by rw[Array.size_setIfInBounds];exact hsz) ?_) (hs L a w i h (ge.1 ho).1 h3 (by
    unfold pg;rw[ho];refine Array.all_eq_true_iff_forall_mem.2 fun e he=>?_
    cases hb:Region.binds md e
    .rfl
    .simpa using h2 e he hb))
   have:=A_ L.toList i (by simpa using h3)
   rw[Array.toList_setIfInBounds];omega
theorem zS{id:Nat}(I:Array Bool->Act->World->Prop)(hm:P.follows .mixedOrders=true)(h0:I (Array.replicate ops.size false) a w.drew)(hd:∀L a w,I L a w->L.toList.count false=0->Q .normal a w)(ha:AG ops=true)(hs:∀L a w i,I L a w->i<ops.size->L[i]?=some false->pg .any ops L i=true->wpOp P ops Q i (fun a' w'=>I (L.setIfInBounds i true) a' w') a w):(Code.region id ops true).wp P Q a w :=
 wp_region_any hm (Ba I hd ha hs _ _ _ _ h0 (by simp) (by simp))
theorem D1(x:Int)(h1:0<=x)(h2:x<9223372036854775808):wrap64 x=x:=by unfold wrap64;omega
theorem wU8(c:UInt8):wrap64 (c.toNat:Int)=(c.toNat:Int):=D1 _ (by omega) (by have:=c.toNat_lt;omega)
theorem yZ:∀c:UInt8,wrap64 (c.toNat:Int)=(c.toNat:Int):=wU8
theorem xI:∀c:UInt8,IntKind.i64.wrap (c.toNat:Int)=(c.toNat:Int):=fun c=>by rw[IntKind.wrap_i64];have:=c.toNat_lt;omega
theorem Co(t:ByteArray)(m n:Nat):t.extract m n=co ((t.data.toList.drop m).take (n-m)):=by
 apply ByteArray.ext
 apply Array.ext'
 simp only[co,ByteArray.data_extract,Array.toList_extract,List.extract_eq_take_drop]
theorem D2(U:ByteArray)(n:Nat):U.extract n U.size=co (U.data.toList.drop n):=by
 have hl:=bC U;rw[Co,List.take_of_length_le (by rw[List.length_drop];omega)]
theorem u6{t:ByteArray}(h:2<=t.size):t.data.toList=t[0]::t[1]::t.data.toList.drop 2:=by
 have hl:=bC t;have e0:t.data.toList=t[0]::t.data.toList.drop 1:=List.drop_eq_getElem_cons (i:=0) (l:=t.data.toList) (by omega);have e1:t.data.toList.drop 1=t[1]::t.data.toList.drop 2:=List.drop_eq_getElem_cons (i:=1) (by omega);rw[<- e1];exact e0
def Df(o1 o2:Option Nat):Prop:=∀g,o1=some g->o2≠some g
theorem Df.symm{o1 o2:Option Nat}(h:Df o1 o2):Df o2 o1:=fun g e1 e2=>h g e2 e1
theorem But.trans{w'':World}(h:But o w w')(k:But o w' w''):But o w w'' :=
 ⟨k.os.trans h.os,k.tape.trans h.tape,k.output.trans h.output,zE h.size k.size,fun b hb hne=>(k.block b (Nat.lt_of_lt_of_le hb h.size) hne).trans (h.block b hb hne)⟩
theorem But.nb(h:But v.ownBlock w w')(h0:n=0->Below w w w'):But (nb n v) w w':=by
 by_cases hn:n=0
 .subst hn;rw[r6];exact But.of_below (h0 rfl)
 .rw [dC hn];exact h
theorem HoldsO.keep{F:List Op.Opt}(h:HoldsO w v F)(hb:But o w w')(hd:Df (nb F.length v) o):HoldsO w' v F:=by
 rcases h with⟨ad,cp,e,e0⟩|⟨g,cp,cur,e,q1,q2⟩
 .exact Or.inl ⟨ad,cp,e,e0⟩
 .by_cases hn:F.length=0
  .have:F=[]:=List.eq_nil_of_length_eq_zero hn
   subst this;exact Or.inl ⟨_,_,e,rfl⟩
  .exact Or.inr ⟨g,cp,cur,e,(hb.block g (ge.1 q1).1 (hd g (by rw[dC hn,e];rfl))).trans q1,q2⟩
theorem HoldsP.keep(h:HoldsP w v F)(hb:But o w w')(hd:Df (nb F.length v) o):HoldsP w' v F:=by
 rcases h with⟨ad,cp,e,e0⟩|⟨g,cp,cur,e,q1,q2⟩
 .exact Or.inl ⟨ad,cp,e,e0⟩
 .by_cases hn:F.length=0
  .have:F=[]:=List.eq_nil_of_length_eq_zero hn
   subst this;exact Or.inl ⟨_,_,e,rfl⟩
  .exact Or.inr ⟨g,cp,cur,e,(hb.block g (ge.1 q1).1 (hd g (by rw[dC hn,e];rfl))).trans q1,q2⟩
theorem HoldsT.keep{F:List ByteArray}(h:HoldsT w v F)(hb:But o w w')(hd:Df (nb F.length v) o):HoldsT w' v F:=by
 rcases h with⟨ad,cp,e,e0⟩|⟨g,cp,cur,e,q1,q2⟩
 .exact Or.inl ⟨ad,cp,e,e0⟩
 .by_cases hn:F.length=0
  .have:F=[]:=List.eq_nil_of_length_eq_zero hn
   subst this;exact Or.inl ⟨_,_,e,rfl⟩
  .exact Or.inr ⟨g,cp,cur,e,(hb.block g (ge.1 q1).1 (hd g (by rw[dC hn,e];rfl))).trans q1,q2⟩
def HoldsK(W:World)(base:Nat)(v:Value)(P:List Op.Pk):Prop :=
 (v=.slice none 0 0/\P=[])\/∃g o cp cur,v=.slice (some (g,o)) P.length cp/\W.heap[g]?=some (.cells cur 85)/\base<=g/\P.length<=cp/\o+cp*3<=cur.size/\∀j,j<P.length*3->cur[o+j]?=(ae P)[j]?
theorem HoldsK.form{P:List Op.Pk}(h:HoldsK W base v P):∃a c,v=.slice a P.length c:=by
 rcases h with⟨rfl,rfl⟩|⟨g,o,cp,cur,rfl,_⟩
 .exact ⟨_,_,rfl⟩
 .exact ⟨_,_,rfl⟩
theorem HoldsK.keep{P:List Op.Pk}(h:HoldsK W base v P)(k:∀g cur,v.ownBlock=some g->base<=g->W.heap[g]?=some (.cells cur 85)->W'.heap[g]?=W.heap[g]?):HoldsK W' base v P :=
 h.imp id fun⟨g,o,cp,cur,e,h2,h3,h4⟩=>⟨g,o,cp,cur,e,(k g cur (by rw[e];rfl) h3 h2).trans h2,h3,h4⟩
theorem HoldsK.own{P:List Op.Pk}(h:W.ownsRow base 85 3 v P.length (ae P)):HoldsK W base v P:=by
 rcases h.2 with⟨h1,h2⟩|⟨g,cap,cur,h1,hb,h3,h4,_,h6,h7⟩
 .exact Or.inl ⟨h1,List.eq_nil_of_length_eq_zero h2⟩
 .refine Or.inr ⟨g,0,cap,cur,h1,h3,hb,h4,by omega,fun j hj=>?_⟩;rw[Nat.zero_add,<- h7,List.getElem?_take,if_pos hj,Array.getElem?_toList]
theorem HoldsK.first{P:List Op.Pk}(h:HoldsK W base v (p::P)): ∃g o cp,v=.slice (some ⟨g,o,none⟩) (P.length+1) (cp+1)/\W.cell? ⟨g,o,none⟩=some (.int .i64 p.code)/\W.cell? ⟨g,o+1,none⟩=some (.int .i64 p.id)/\W.cell? ⟨g,o+2,none⟩=some (.string p.data)/\HoldsK W base (.slice (some ⟨g,o+3,none⟩) P.length cp) P/\(cp=0->HoldsK W base (.slice (some ⟨g,o,none⟩) P.length 0) P):=by
 rcases h with⟨_,e⟩|⟨g,o,cp,cur,rfl,h2,h3,h4,h5,h6⟩
 .cases e
 .rw [List.length_cons]at h4 h6|-;obtain⟨k,rfl⟩:∃k,cp=k+1:=⟨cp-1,by omega⟩;have e:ae (p::P)=.int .i64 p.code :: .int .i64 p.id :: .string p.data::ae P:=rfl;refine⟨g,o,k,rfl,?_,?_,?_,Or.inr ⟨g,o+3,k,cur,rfl,h2,h3,by omega,by omega,fun j hj=>?_⟩,fun hk=>?_⟩
  .rw [cr h2];exact h6 0 (by omega)
  .rw [cr h2];exact h6 1 (by omega)
  .rw [cr h2];exact h6 2 (by omega)
  .have:=h6 (j+3) (by omega)
   rw[show o+3+j=o+(j+3)by omega,this,e];rfl
  .have:P=[]:=List.eq_nil_of_length_eq_zero (by omega)
   subst this;exact Or.inr ⟨g,o,0,cur,rfl,h2,h3,zD _,by omega,fun j hj=>absurd hj (by simp)⟩
theorem cL(F:List Op.Pk):∀u∈ae F,u.oneCell'=true:=by
 intro u hu;simp only[ae,List.mem_flatMap,List.mem_cons,List.not_mem_nil,or_false]at hu;obtain⟨f,_,rfl|rfl|rfl⟩:=hu<;>rfl
theorem fV:∀(vs:List Value)(o:Nat)(W:World)(cur:Array Value),W.heap[g]?=some (.cells cur T)->o+vs.length<=cur.size ->
  ∃cur',(W.setCells g o vs).heap[g]?=some (.cells cur' T)/\cur'.size=cur.size/\(∀k,k<o->cur'[k]?=cur[k]?)/\∀j,j<vs.length->cur'[o+j]?=vs[j]?
 | [],_,_,cur,h,_=>⟨cur,h,rfl,fun _ _=>rfl,fun j hj=>absurd hj (by simp)⟩
 | v::vs,o,W,cur,h,hl=>by
  rw[List.length_cons]at hl;obtain⟨cur',h1,h2,h3,h4⟩:=fV vs (o+1) (W.setCell (g,o) v) (cur.setIfInBounds o v) (zH _ _ o _ _ v h) (by rw[Array.size_setIfInBounds];omega);refine⟨cur',h1,by rw[h2,Array.size_setIfInBounds],fun k hk=>?_,fun j hj=>?_⟩
  .rw [h3 k (by omega),Array.getElem?_setIfInBounds,if_neg (by omega)]
  .cases j with
   | zero =>
    rw[Nat.add_zero,h3 o (by omega),Array.getElem?_setIfInBounds,if_pos rfl,if_pos (by omega)];rfl
   | succ j =>
    rw[List.length_cons]at hj;rw[show o+(j+1)=o+1+j by omega,h4 j (by omega)];rfl
theorem cM{a:World}(hg:n<=g):∀(vs:List Value)(o:Nat)(W:World),Below n a W->Below n a (W.setCells g o vs)
 | [],_,_,h=>h
 | v::vs,o,W,h=>cM hg vs (o+1) (W.setCell (g,o) v) (h.setCell (p:=(g,o)) hg v)
theorem bu(hk:k≠g):∀(vs:List Value)(o:Nat)(W:World),(W.setCells g o vs).heap[k]?=W.heap[k]?
 | [],_,_=>rfl
 | v::vs,o,W=>(bu hk vs (o+1) (W.setCell (g,o) v)).trans (zJ _ (g,o) _ _ hk)
theorem dW(ty:TypeId)(ad ad':Option Addr)(n cap c':Nat)(hc:n<=cap):(Builtin.append_ #[60,60] ty #[(ad,n,cap),(ad',0,c')]).run prog W=.ok (ad,n,cap) W:=by
 obtain⟨i,hi,hz,hsz,hby⟩:=AF;cases ad<;>cases ad'<;>simp[Builtin.append_,run_underlying underlying60,sizeOf,typeInfo,hi,Builtin.lenOf,Builtin.firstCells,loadCells,loadCellsFrom,storeCells,hc]
theorem HoldsP.news{cs:Nat}{cur:Array Value}(h1:W.heap[g]?=some (.cells cur 85))(h2:∀j,j<F.length*3->cur[j]?=(ae F)[j]?)(_:cs=cs):∀j u,(ae F)[j]?=some u->W.cell? ((⟨g,0,none⟩:Addr).add j)=some u:=fun j u hu=>by
 have hj:j<F.length*3:=by have:=(List.getElem?_eq_some_iff.1 hu).1;rw[aF]at this;exact this
 rw[Addr.add_lit,Nat.zero_add,cr h1,h2 j hj];exact hu
theorem eX{s:Value}{P:List Op.Pk}(ty:TypeId)(hv:HoldsK W base v P)(hs:HoldsP W s F)(hP:P.length<=1000000)(hF:F.length<=1000000)(hbase:base<=W.heap.size):∃v' W',(Builtin.append_ #[60,60] ty #[v,s]).run prog W=.ok v' W'/\HoldsK W' base v' (P++F)/\W.grownBy W' v.ownBlock/\∀g,v'.ownBlock=some g->v.ownBlock=some g\/W.heap.size<=g:=by
 obtain⟨i,hi,hz,hsz,hby⟩:=AF;rcases hs with⟨ad,cs,rfl,rfl⟩|⟨g2,cs,cu,rfl,s2,s3,s4⟩
 .rw [List.append_nil];rcases hv with⟨rfl,rfl⟩|⟨g,o,cp,cur,rfl,h2,h3,h4,h5,h6⟩
  .exact ⟨_,_,dW ty none ad 0 0 cs (zD _),Or.inl ⟨rfl,rfl⟩,⟨rfl,rfl,rfl,zD _,fun _ _ _=>rfl⟩,fun _ h=>Or.inl h⟩
  .exact ⟨_,_,dW ty _ ad _ _ cs h4,Or.inr ⟨g,o,cp,cur,rfl,h2,h3,h4,h5,h6⟩,⟨rfl,rfl,rfl,zD _,fun _ _ _=>rfl⟩,fun _ h=>Or.inl h⟩
 .have hnews:=HoldsP.news (cs:=cs) s2 s4 rfl;have grow:∀(W':World)(v':Value),W'.ownsRow W 85 3 v' (P.length+F.length) (ae P++ae F)->HoldsK W' base v' (P++F)/\∀g,v'.ownBlock=some g->v.ownBlock=some g\/W.heap.size<=g:=fun W' v' r1=>by
   have ho:HoldsK W' W v' (P++F):=HoldsK.own (by rw[List.length_append,aR];exact r1);refine⟨ho.imp id fun⟨g,o,cp,cur,e,h2,h3,h4⟩=>⟨g,o,cp,cur,e,h2,zE hbase h3,h4⟩,fun g hg=>Or.inr ?_⟩;rcases ho with⟨e,_⟩|⟨g',o,cp,cur,e,h2,h3,_⟩
   .rw [e]at hg;cases hg
   .rw [e]at hg;cases hg;exact h3
  rcases hv with⟨rfl,rfl⟩|⟨g,o,cp,cur,rfl,h2,h3,h4,h5,h6⟩
  .obtain ⟨v',W',h1,r1,r2,_⟩:=run_append_own (P:=prog) W W 60 ty 85 i _ 3 32 underlying60 hi hz hsz hby rfl (by decide) () 0 (ae []) (World.ownsRow_nil _ _ _ _) (g2,0) F.length cs (ae F) (aF F) hnews (cL F) (by unfold maxLen;omega) (by omega) (zD _);have:=grow W' v' (by simpa using r1)
   exact⟨v',W',h1,this.1,r2,this.2⟩
  .by_cases hr:P.length+F.length<=cp
   .have hcell:∀j,j<(ae F).length->(W.cell? ⟨g,o+P.length*i.size+j,none⟩).isSome=true/\W.frozen? ⟨g,o+P.length*i.size+j,none⟩=false:=by
     intro j hj;rw[aF]at hj;have hc:o+P.length*3+j<cur.size:=by omega
     rw[hsz,cr h2,Array.getElem?_eq_getElem hc];exact⟨rfl,aX h2 _⟩
    have hrun:=run_append_room_cells (P:=prog) W 60 ty 85 i underlying60 hi g o P.length cp (g2,0) F.length cs (ae F) (by rw[hsz,aF]) hnews (cL F) hr (fun j hj=>(hcell j hj).1) (fun j hj=>(hcell j hj).2);rw[hsz]at hrun;obtain⟨cur',k1,k2,k3,k4⟩:=fV (ae F) (o+P.length*3) W cur h2 (by rw[aF];omega);refine⟨_,_,hrun,Or.inr ⟨g,o,cp,cur',by rw[List.length_append],k1,h3,by rw[List.length_append];exact hr,by rw[k2];exact h5,fun j hj=>?_⟩,?_,fun _ h=>Or.inl h⟩
    .rw [List.length_append]at hj;rw[aR];by_cases ej:j<P.length*3
     .rw [k3 _ (by omega),h6 j ej,List.getElem?_append_left (by rw[aF];exact ej)]
     .have e5:o+j=o+P.length*3+(j-P.length*3):=by omega
      rw[List.getElem?_append_right (by rw[aF];omega),aF,e5];exact k4 (j-P.length*3) (by rw[aF];omega)
    .have hb:=cM (n:=0) (g:=g) (a:=W) (Nat.zero_le _) (ae F) (o+P.length*3) W (zC 0 W);exact⟨hb.os,hb.tape,hb.output,hb.size,fun k hkl hne=>bu (fun e=>hne (by rw[e];rfl)) (ae F) _ _⟩
   .obtain ⟨v',W',h1,r1,r2⟩:=run_append_arg_grows (P:=prog) W 60 ty 85 i _ 3 32 underlying60 hi hz hsz hby rfl (by decide) (g,o) P.length cp (ae P) (aF P) (fun j u hu=>by
      have hj:j<P.length*3:=by have:=(List.getElem?_eq_some_iff.1 hu).1;rw[aF]at this;exact this
      rw[Addr.add_lit,cr h2,h6 j hj];exact hu) (g2,0) F.length cs (ae F) (aF F) hnews (by omega) (by unfold maxLen;omega) (by omega)
    have:=grow W' v' r1
    exact⟨v',W',h1,this.1,⟨r2.os,r2.tape,r2.output,r2.size,fun k hk _=>r2.block k hk (by simp)⟩,this.2⟩
theorem pw{rest:List Oper}{o:Oper}(hgd:o.guard=none)(s x:Operand)(ho:o.op=.call {callee:=.builtin .append,args:=#[s,x],argTypes:=#[60,60]})(base:Nat)(v sv:Value)(P F:List Op.Pk)(hs:a.eval s=v)(hx:a.eval x=sv)(hv:HoldsK W base v P)(hsv:HoldsP W sv F)(hP:P.length<=1000000)(hF:F.length<=1000000)(hbase:base<=W.heap.size)(h:∀v' w',HoldsK w' base v' (P++F)->W.grownBy w' v.ownBlock->(∀g,v'.ownBlock=some g->v.ownBlock=some g\/W.heap.size<=g)->wpList prog ops Q rest (a.put o.dst v') w'):wpList prog ops Q (o::rest) a W:=by
 refine wpList_plain hgd fun K hK=>?_
 obtain⟨v',w',hr,h2,h3,h4⟩:=eX (W:=W) o.type hv hsv hP hF hbase;unfold Oper.wp execOp;simp only[ho,resolve,invoke,builtin,Sem.run_bind,Sem.run_pure,Result.andThen_ok,List.map_toArray,List.map_cons,List.map_nil,hs,hx,hr];exact hK _ _ (h v' w' h2 h3 h4)
theorem HoldsK.fst{P:List Op.Pk}(h:HoldsK W base v (p::P)): ∃g o cp cur,v=.slice (some ⟨g,o,none⟩) (P.length+1) (cp+1)/\W.heap[g]?=some (.cells cur 85)/\cur[o]?=some (.int .i64 p.code)/\cur[o+1]?=some (.int .i64 p.id)/\cur[o+2]?=some (.string p.data):=by
 rcases h with⟨_,e⟩|⟨g,o,cp,cur,rfl,h2,h3,h4,h5,h6⟩
 .cases e
 .rw [List.length_cons]at h4 h6|-;obtain⟨k,rfl⟩:∃k,cp=k+1:=⟨cp-1,by omega⟩;exact⟨g,o,k,cur,rfl,h2,h6 0 (by omega),h6 1 (by omega),h6 2 (by omega)⟩
theorem fp:prog.elem 60=85:=by kernel_rfl
theorem kg(g o n cp:Nat):∃b:Addr,(0<cp->b=(g,o+3))/\(b=⟨g,o+3,none⟩\/b=(g,o))/\∀z:World,(Instr.slice 60 (.slice (some (g,o)) (n+1) (cp+1)) (some ((1:Int):V)) none none).run prog z=.ok (.slice (some b) n cp) z:=by
 refine⟨if cp+1=1 then(g,o)else(g,o+3),fun h=>if_neg (by omega),?_,fun z=>?_⟩
 .split
  .exact Or.inr rfl
  .exact Or.inl rfl
 .have hs:=Tryz.sizeOf85 z;rw[run_slice_l (P:=prog) (w:=z) 60 (some (g,o)) (n+1) (cp+1) (by rw[fp];exact underlying60) .i64 1 (by omega) (by omega),fp,hs];simp[Result.andThen,sliced];split<;>rfl
theorem HoldsK.tail{o:Nat}{Q:List Op.Pk}{b:Addr}(h:HoldsK W base (.slice (some (g,o)) (n+1) (cp+1)) Q)(hb:0<cp->b=(g,o+3))(hb2:b=⟨g,o+3,none⟩\/b=(g,o)):∃p P,Q=p::P/\P.length=n/\HoldsK W base (.slice (some b) n cp) P:=by
 obtain⟨a,c,e⟩:=h.form;injection e with _ e _;match Q,h,e with
 | [],_,e=>simp at e
 | p::P,h,e =>
  rw[List.length_cons]at e;have e':P.length=n:=by omega
  subst e';obtain⟨g',o',cp',e1,_,_,_,h1,h2⟩:=h.first;injection e1 with e1 _ e2;injection e1 with e1;injection e1 with e1 e3 _;have e4:cp=cp':=by omega
  subst e1 e3 e4;refine⟨p,P,rfl,rfl,?_⟩;by_cases hc:0<cp
  .rw [hb hc];exact h1
  .have hc0:cp=0:=by omega
   subst hc0;rcases hb2 with rfl|rfl
   .exact h1
   .exact h2 rfl
theorem cH:∀(Y vs X Z:List Value)(W:World),W.heap[B]?=some (.cells (X++Y++Z).toArray T)->vs.length=Y.length->(W.setCells B X.length vs).heap[B]?=some (.cells (X++vs++Z).toArray T)
 | [],vs,X,Z,W,h,e=>by
  have:=List.eq_nil_of_length_eq_zero e
  subst this;exact h
 | y::Y,[],X,Z,W,h,e=>by simp at e
 | y::Y,v::vs,X,Z,W,h,e=>by
  have h1:=zH _ _ X.length _ _ v h;have h2:(X++y::Y++Z).toArray.setIfInBounds X.length v=((X++[v])++Y++Z).toArray:=by
   simp
  rw[h2]at h1;have h3:=cH Y vs (X++[v]) Z _ h1 (by simpa using e);rw[List.length_append,List.length_singleton]at h3;rw[show X++v::vs++Z=X++[v]++vs++Z by simp];exact h3
theorem aS{Y:List Value}(h:W.heap[B]?=some (.cells (X++Y++Z).toArray T)):W.rangeAt B X.length Y:=fun j v hj=>by
 rw[cr h];have:=(List.getElem?_eq_some_iff.1 hj).1
 rw[List.getElem?_toArray,List.append_assoc,List.getElem?_append_right (by omega),List.getElem?_append_left (by omega),Nat.add_sub_cancel_left];exact hj
theorem bI(h:W.heap[B]?=some (.cells (X++[v]++Z).toArray T)):W.cell? (B,X.length)=some v:=aS h 0 v rfl
structure Fr(B:Nat)(v v':Value)(W W':World):Prop where
 os:W'.os=W.os
 tape:W'.tape=W.tape
 output:W'.output=W.output
 size:W.heap.size<=W'.heap.size
 same:∀k,k<W.heap.size->k≠B->v.ownBlock≠some k->W'.heap[k]?=W.heap[k]?
 own:∀g,v'.ownBlock=some g->v.ownBlock=some g\/W.heap.size<=g
theorem Fr.trans{v'':Value}{W'':World}(h:Fr B v v' W W')(k:Fr B v' v'' W' W''):Fr B v v'' W W'' :=
 ⟨k.os.trans h.os,k.tape.trans h.tape,k.output.trans h.output,zE h.size k.size,fun i hi h1 h2=>(k.same i (Nat.lt_of_lt_of_le hi h.size) h1 fun e=>(h.own i e).elim (fun e=>h2 e) (fun e=>by omega)).trans (h.same i hi h1 h2),
  fun g hg=>(k.own g hg).elim (h.own g) (fun e=>Or.inr (zE h.size e))⟩
theorem Fr.of_below(h:Below W W W'):Fr B v v W W' :=
 ⟨h.os,h.tape,h.output,h.size,fun k hk _ _=>h.block k hk,fun _ hg=>Or.inl hg⟩
theorem Fr.refl(B:Nat)(v:Value)(W:World):Fr B v v W W:=Fr.of_below (zC _ _)
theorem Fr.grown(hg:W.grownBy W' v.ownBlock)(ho:∀g,v'.ownBlock=some g->v.ownBlock=some g\/W.heap.size<=g):Fr B v v' W W' :=
 ⟨hg.os,hg.tape,hg.output,hg.size,fun k hk _ h2=>hg.block k hk (fun e=>h2 e.symm),ho⟩
theorem Fr.cells(v v':Value)(W:World)(ho:∀g,v'.ownBlock=some g->v.ownBlock=some g\/W.heap.size<=g)(o:Nat)(vs:List Value):Fr B v v' W (W.setCells B o vs):=by
 have hb:=cM (n:=0) (g:=B) (a:=W) (Nat.zero_le _) vs o W (zC 0 W);exact⟨hb.os,hb.tape,hb.output,hb.size,fun k _ h1 _=>bu h1 vs o W,ho⟩
structure Wr(base:Nat)(T:TypeId)(W:World)(B:Nat)(X Z:List Value)(v:Value)(L:List Op.Pk):Prop where
 row:W.heap[B]?=some (.cells (X++[v]++Z).toArray T)
 hk:HoldsK W base v L
 le:L.length<=40
 bs:base<=W.heap.size
 nT:T≠85
section
variable {base:Nat} {T:TypeId} {W W':World} {B:Nat} {X Z:List Value} {v:Value} {L:List Op.Pk}
theorem Wr.ownB(h:Wr base T W B X Z v L)(g:Nat)(hg:v.ownBlock=some g):g≠B/\base<=g/\g<W.heap.size/\∃cur,W.heap[g]?=some (.cells cur 85):=by
 rcases h.hk with⟨rfl,_⟩|⟨g',o,cp,cur,rfl,h2,h3,_⟩
 .cases hg
 .cases hg;refine⟨fun(e:g'=B)=>?_,h3,(ge.1 h2).1,cur,h2⟩;rw[e,h.row]at h2;injection h2 with h2;injection h2 with _ h2;exact h.nT h2
theorem Wr.lt(h:Wr base T W B X Z v L):B<W.heap.size:=(ge.1 h.row).1
theorem Wr.below(h:Wr base T W B X Z v L)(hb:Below W W W'):Wr base T W' B X Z v L :=
 ⟨(hb.block B h.lt).trans h.row,h.hk.keep fun g _ hg _ _=>hb.block g (h.ownB g hg).2.2.1,h.le,zE h.bs hb.size,h.nT⟩
theorem Wr.set(h:Wr base T W B X Z v L){L':List Op.Pk}(hk:HoldsK W base v' L')(le:L'.length<=40):Wr base T (W.setCell (B,X.length) v') B X Z v' L':=by
 have h1:=cH [v] [v'] X Z W h.row rfl;refine⟨h1,hk.keep fun g cur hg _ h2=>heap_setCell_other _ _ _ _ (fun e=>?_),le,zE h.bs (((zC 0 W).setCell (p:=(B,X.length)) (Nat.zero_le _) _).size),h.nT⟩;have e':g=B:=e;rw[e',h.row]at h2;injection h2 with h2;injection h2 with _ h2;exact h.nT h2
end
def cV(ca cb:List Value)(cd:Int):List Value:=ca++cb++[Value.int .i64 cd]
theorem yb{ca cb:List Value}{cd:Int}(la:ca.length=30)(lb:cb.length=30)(h:W.heap[B]?=some (.cells (cV ca cb cd).toArray T)):W.rangeAt B 0 ca/\W.rangeAt B 30 cb/\W.cell? (B,60)=some (.int .i64 cd):=by
 unfold cV at h;refine⟨?_,?_,?_⟩
 .have:=aS (X:=[]) (Y:=ca) (Z:=cb++[Value.int .i64 cd]) (by rw[List.nil_append,<- List.append_assoc];exact h)
  exact this
 .have:=aS h
  rw[la]at this;exact this
 .have:=bI (X:=ca++cb) (v:=Value.int .i64 cd) (Z:=[]) (by rw[List.append_nil];exact h)
  rw[List.length_append,la,lb]at this;exact this
structure EqM(w:World)(cs ds:List Value)(q:World):Prop where
 a:q.heap[w.heap.size]?=some (.cells cs.toArray 34)
 b:q.heap[w.heap.size+1]?=some (.cells ds.toArray 34)
 l:Below w w q
theorem EqM.step{ds:List Value}(h:EqM w cs ds q)(hb:Below q q q'):EqM w cs ds q' :=
 ⟨(hb.block _ (ge.1 h.a).1).trans h.a,(hb.block _ (ge.1 h.b).1).trans h.b,h.l.trans (hb.mono h.l.size)⟩
theorem EN(a1 a2:Option Addr)(c1 c2:Nat)(w:World):Calls prog 31 #[(a1,0,c1),(a2,0,c2)] w fun e w'=>e=.returned (.bool true)/\Below w w w':=by
 go_enter func31,ntmps31
 go_wp2_with fail
 go_loopw [5] (fun y wr=>y=.int .i64 0/\wr=w) (fun _ _=>0)
 case atStart=>exact⟨rfl,rfl⟩
 case round =>
  obtain⟨rfl,rfl⟩:=hrel;go_wp2
  go_ret
  exact⟨rfl,zC _ _⟩
theorem Hc(g1 g2 c1 c2:Nat)(F:List Op.Opt)(cur1 cur2:Array Value)(w:World)(hF:F.length<=2000)(h1:w.heap[g1]?=some (.cells cur1 105))(h2:w.heap[g2]?=some (.cells cur2 105))(a1:∀j,j<F.length*2->cur1[j]?=(aj F)[j]?)(a2:∀j,j<F.length*2->cur2[j]?=(aj F)[j]?):Calls prog 31 #[.slice (some ⟨g1,0,none⟩) F.length c1,.slice (some ⟨g2,0,none⟩) F.length c2] w fun e w'=>e=.returned (.bool true)/\Below w.heap.size w w':=by
 have hl1:g1<w.heap.size:=(ge.1 h1).1;have hl2:g2<w.heap.size:=(ge.1 h2).1;obtain⟨n,hn⟩ : ∃n,F.length=n:=⟨_,rfl⟩;have HA:Hid (∀i,i<n->∃x t,cur1[i*2]?=some (.int .i64 x)/\cur1[i*2+1]?=some (.string t)/\cur2[i*2]?=some (.int .i64 x)/\cur2[i*2+1]?=some (.string t)):=by
  refine aa fun i hi=>?_
  have g:=bW F i (F[i]'(by omega)) (List.getElem?_eq_getElem (by omega));exact⟨_,_,(a1 _ (by omega)).trans g.1,(a1 _ (by omega)).trans g.2,(a2 _ (by omega)).trans g.1,(a2 _ (by omega)).trans g.2⟩
 rw[hn]at hF|-;clear a1 a2 hn;go_enter func31,ntmps31
 go_wp2_with fail
 go_loopw [5] (fun y wr=>∃(i:Nat),i<=n/\y=.int .i64 i/\Below w.heap.size w wr) (fun y _=>n-(intOf y).toNat)
 case atStart=>exact⟨0,Nat.zero_le _,rfl,zC _ _⟩
 case round =>
  obtain⟨i,hi,rfl,hb⟩:=hrel;have hbs:=hb.size;by_cases hlt:i<n
  .have d1:(i:Int)<(n:Int):=by omega
   obtain⟨x,t,q1,q2,q3,q4⟩:=uh HA i hlt;have e1:=(hb.block g1 hl1).trans h1;have e2:=(hb.block g2 hl2).trans h2;have k0:wr.cell? ⟨g1,i*2,none⟩=some (.int .i64 x):=by rw[cr e1];exact q1
   have k1:wr.cell? ⟨g1,i*2+1,none⟩=some (.string t):=by rw[cr e1];exact q2
   have k2:wr.cell? ⟨g2,i*2,none⟩=some (.int .i64 x):=by rw[cr e2];exact q3
   have k3:wr.cell? ⟨g2,i*2+1,none⟩=some (.string t):=by rw[cr e2];exact q4
   have HB:Hid (∀k,Below w.heap.size w (wr.drewN k)):=aa fun k=>⟨hb.os,hb.tape,hb.output,hb.size,hb.block⟩
   clear e1 e2 q1 q2 q3 q4 h1 h2;go_wp2_with fail
   go_quiet (fail)
   go_wp2
   go_roundw
   case rel=>exact⟨i+1,by omega,by go_num,uh HB _⟩
   case measure=>simp[intOf];omega
  .have e:i=n:=by omega
   subst e;have d1:¬((i:Int)<(i:Int)):=by omega
   go_wp2
   go_ret
   exact⟨rfl,hb⟩
theorem lwO(v1 v2:Value)(F:List Op.Opt)(w:World)(hF:F.length<=2000)(h1:HoldsO w v1 F)(h2:HoldsO w v2 F):Calls prog 31 #[v1,v2] w fun e w'=>e=.returned (.bool true)/\Below w w w':=by
 rcases h1 with⟨ad1,cp1,rfl,e⟩|⟨g1,cp1,cur1,rfl,q1,q2,q3⟩
 .subst e;rcases h2 with⟨ad2,cp2,rfl,_⟩|⟨g2,cp2,cur2,rfl,_⟩
  .exact EN _ _ _ _ w
  .exact EN _ _ _ _ w
 .rcases h2 with⟨ad2,cp2,rfl,e⟩|⟨g2,cp2,cur2,rfl,r1,r2,r3⟩
  .subst e;exact EN _ _ _ _ w
  .exact Hc g1 g2 cp1 cp2 F cur1 cur2 w hF q1 r1 q3 r3
theorem FL(Y:Int):∃m:Nat,m<18446744073709551616/\IntKind.u64.wrap Y=(m:Int):=by
 rw[IntKind.wrap_u64];obtain⟨m,hm⟩:=Int.eq_ofNat_of_zero_le (Int.emod_nonneg Y (show(18446744073709551616:Int)≠0 by decide));exact⟨m,by have:=Int.emod_lt_of_pos Y (show(0:Int)<18446744073709551616 by decide);omega,hm⟩
theorem Dat.mono{B':Nat}{sl:Value}(h:Dat w B sl n)(hb:B<=B'):Dat w B' sl n :=
 ⟨h.1,fun i hi=>by
  obtain⟨b,o,cap,x,h1,h2,h3,h4⟩:=h.2 i hi;exact⟨b,o,cap,x,h1,by omega,h3,h4⟩⟩
theorem D3(w:World)(sl:Value)(n:Nat)(hn:n<=maxLen)(hD:Dat w w sl n):Calls prog 18 #[sl] w fun e w'=>e=.returned (.pointer (some (w,0)))/\Src w' w sl n/\Below w w w':=by
 obtain⟨sa,scap,rfl⟩:=hD.1;unfold maxLen at hn;go_enter func18,ntmps18
 go_wp2_with fail
 go_loopw [4] (fun i wr=>∃(j m:Nat),j<=n/\j<=64/\i=.int .i64 j/\m<18446744073709551616/\wr.heap[w.heap.size]?=some (.cells #[(sa,n,scap),(0:Int),.int .u64 m,(0:Int)] 54)/\Below w w wr) (fun i _=>64-(intOf i).toNat)
 case atStart=>exact⟨0,88172645463325252,by omega,by omega,rfl,by decide,heap_alloc_last w _,(zC _ _).alloc (zD _) _⟩
 case round =>
  obtain⟨j,m,hj1,hj2,rfl,hm,hB,hb1⟩:=hrel;obtain⟨c0,c1,c2,c3,f0,f1,f2,f3⟩:=Bh hB;have HB:=aa hB;clear hB;by_cases hlt:j<n/\j<64
  .obtain ⟨hlt1,hlt2⟩:=hlt;obtain⟨b,o,cap,x,hsl,hbb,hx,hx2⟩:=(hD.below hb1).2 j hlt1;obtain⟨rfl,rfl⟩:sa=some ⟨b,o,none⟩/\cap=scap:=by
    simp only[Value.slice.injEq,true_and]at hsl;exact⟨hsl.1,hsl.2.symm⟩
   have d1:decide ((j:Int)<(n:Int))=true:=decide_eq_true (by omega);have d2:decide ((j:Int)<64)=true:=decide_eq_true (by omega);have hne:b≠w.heap.size:=by omega
   clear hsl;have HD:=aa hD;clear hD;go_wp2_with fail
   go_region
   go_wp2
   obtain⟨m2,hm2,e2⟩:=FL (bits .xor .u64 (m:Int) (x:Int)*1099511628211);go_roundw
   case rel =>
    refine⟨j+1,m2,by omega,by omega,by go_num,hm2,?_,?_⟩
    .rw [<- e2];exact B1 (w:=wr) HB.out _
    .exact (hb1.setCell (p:=(w,2)) (zD _) _).drew
   case measure=>simp[intOf];omega
  .by_cases hlt1:j<n
   .have d1:decide ((j:Int)<(n:Int))=true:=decide_eq_true (by omega);have d2:decide ((j:Int)<64)=false:=decide_eq_false (by omega);by_cases h12:12<n / 20
    .have h12':(12:Int)<(n:Int) / 20:=by omega
     go_wp2
     go_ret
     exact⟨rfl,⟨0,m,12,Nat.zero_le _,hm,by omega,D0 (w:=wr.setCell ⟨w.heap.size,3,none⟩ _) (D0 (w:=wr) HB.out _) _⟩,(hb1.setCell (p:=⟨w.heap.size,3,none⟩) (zD _) _).setCell (p:=⟨w.heap.size,3,none⟩) (zD _) _⟩
    .have h12':¬((12:Int)<(n:Int) / 20):=by omega
     go_wp2
     go_ret
     exact⟨rfl,⟨0,m,n / 20,Nat.zero_le _,hm,by omega,D0 (w:=wr) HB.out _⟩,hb1.setCell (p:=(w,3)) (zD _) _⟩
   .have d1:decide ((j:Int)<(n:Int))=false:=decide_eq_false (by omega);have h12':¬((12:Int)<(n:Int) / 20):=by omega
    go_wp2
    go_ret
    exact⟨rfl,⟨0,m,n / 20,Nat.zero_le _,hm,by omega,D0 (w:=wr) HB.out _⟩,hb1.setCell (p:=(w,3)) (zD _) _⟩
def Cp:Value->Bool
 | .int .i64 n=>decide (-9223372036854775808<=n/\n<=9223372036854775807)
 | _=>false
theorem CV(h:Cp v=true):∃x:Int,v=.int .i64 x/\-9223372036854775808<=x/\x<=9223372036854775807:=by
 unfold Cp at h;split at h
 .exact ⟨_,rfl,by simpa using h⟩
 .cases h
theorem sz{cs:Array Value}(h:w.heap[g]?=some (.cells cs T))(ha:∀v∈cs.toList,Cp v=true)(r:Nat)(hr:r<cs.size):∃x:Int,w.cell? (g,r)=some (.int .i64 x)/\-9223372036854775808<=x/\x<=9223372036854775807:=by
 obtain⟨x,hx,h1,h2⟩:=CV (ha cs[r] (by simp));exact⟨x,by rw[cell_of_row w g r cs T (0,0) h,Array.getElem?_eq_getElem hr,hx],h1,h2⟩
def fF(fn:FuncId)(tmps:Array Value)(ps:Array Tmp)(assign body:Code)(D:Nat)(st:LoopState):Loop:={state:=st,pending:=none,fn:=fn,tmps:=tmps,params:=ps,assign:=assign,body:=body,defers:=D}
structure RecAt(l:Nat)(r:LoopState->Loop)(D:Nat)(st:LoopState)(W:World):Prop where
 lp:W.heap[l]?=some (.loop (r st))
 df:W.heap[D]?=some (.deferred (some []))
theorem RecAt.keep(h:RecAt l r D st W)(k:KeepsFrom B W W')(h1:B<=l)(h2:B<=D):RecAt l r D st W' :=
 ⟨k.same _ _ h1 h.lp rfl,k.same _ _ h2 h.df rfl⟩
theorem RecAt.ne(h:RecAt l r D st W):D≠l:=fun e=>by
 have:=h.lp
 rw[<- e,h.df]at this;cases this
theorem RecAt.put(h:RecAt l r D st W)(st':LoopState):RecAt l r D st' (W.putObj l (.loop (r st'))) :=
 ⟨World.putObj_heap_same (ge.1 h.lp).1,(World.putObj_heap_other h.ne).trans h.df⟩
theorem lX{m:Nat}{fn:FuncId}{tmps:Array Value}{x:Value}(hr:RecAt l (fF fn tmps ps assign body D) D .ready W)(hps:ps.size=1)(hl:B<=l)(hD:B<=D)(hJ:∀V r o,V.heap[l]?=some (.loop r)->J V->J (V.putObj l (.loop o)))(h:assign.wpIn (Fence.wide.inRound l) m P (Exit.then (fun a1 W1=>KeepsFrom B W W1/\∀W2,W2=W1.putObj l (.loop (fF fn tmps ps assign body D .busy))->RecAt l (fF fn tmps ps assign body D) D .busy W2 ->
   body.wpIn (Fence.wide.inRound l) m P (fun e _ W'=>e=.normal/\KeepsFrom B W2 W'/\J W') a1 W2) (fun _ _ _=>False))
   {tmps:=(ps.zip #[x]).foldl (fun t (p,v)=>t.setIfInBounds p v) tmps,defers:=[]} W):YieldAt Fence.wide m P l #[x] W fun e W'=>e=.returned (.bool true)/\J W'/\RecAt l (fF fn tmps ps assign body D) D .ready W':=by
 refine⟨fn,_,assign,body,run_yield (P:=P) (args:=#[x]) hr.lp (by rw[show(fF fn tmps ps assign body D .ready).params=ps from rfl,hps];rfl),roundIn_of_wpIn trivial (wpIn_mono h ?_)⟩;rintro e a1 W1 he;cases e with
 | normal =>
  obtain⟨hk,hb⟩:=he;have r1:=hr.keep hk hl hD;refine⟨_,run_beginRound r1.lp rfl,wpIn_mono (hb _ rfl (r1.put .busy)) ?_⟩;rintro e a2 W3⟨rfl,k3,j3⟩;have r3:=(r1.put .busy).keep k3 hl hD;exact⟨_,_,run_endRound none r3.lp,rfl,hJ _ _ _ r3.lp j3,r3.put .ready⟩
 | _=>exact he.elim
theorem lZ{g:Operand}{gf:Nat}{lb:Array Value}(hg:a.eval g=.func (.func gf) #[] lb)(eg:∀args w,(callFunc gf args).run P w=.ok (.enter gf args) w)(hJ:∀V l r o,w.heap.size<=l->V.heap[l]?=some (.loop r)->J V->J (V.putObj l (.loop o)))(hi:∀fn l D W1 R,R=fF fn a.tmps ps assign body D->w.heap.size<=l->w.heap.size<=D->Below w w W1->W1.heap.size=w.heap.size+2->RecAt l R D .ready W1 ->
   CallsIn Fence.wide (n-1) P gf (#[.func (.yield l) #[] #[]]++lb) W1 fun e W'=>(∃v,e=.returned v)/\J W'/\RecAt l R D .ready W')(hd:∀D W,w.heap.size<=D->J W->W.heap[D]?=some (.deferred (some []))->Q .normal {a with defers:={target:=.collected D,args:=#[]}::a.defers} W):(Code.rangeFunc g ps assign body).wpIn Fence.wide n P Q a w:=by
 refine wpIn_rangeFunc ?_;intro fn _;have hen:=run_enterLoop_outer (P:=P) (w:=w) fn a.tmps ps assign body;obtain⟨W1,hW1⟩ := ex ((w.alloc (.deferred (some []))).alloc (.loop (fF fn a.tmps ps assign body w.heap.size .ready)));have hR:RecAt (w.heap.size+1) (fF fn a.tmps ps assign body w.heap.size) w.heap.size .ready W1:=by
  rw[<- hW1];refine⟨?_,(zG _ _ _ (by simp)).trans (World.alloc_heap_new w _)⟩;have:=World.alloc_heap_new (w.alloc (.deferred (some []))) (.loop (fF fn a.tmps ps assign body w.heap.size .ready))
  rwa [World.size_alloc]at this
 have hb:Below w w W1:=by rw[<- hW1];exact((zC _ w).alloc (zD _) _).alloc (by simp) _
 have hz:W1.heap.size=w.heap.size+2:=by rw[<- hW1];simp
 have hc:=hi fn (w.heap.size+1) w W1 _ rfl (Nat.le_succ _) (zD _) hb hz hR;rw[show Fence.wide.round=none from rfl];clear hi hb hz hR;refine⟨w.heap.size+1,[{target:=.collected w.heap.size,args:=#[]}],W1,{target:=.fn (.func gf) lb,args:=#[.func (.yield (w.heap.size+1)) #[] #[]]},W1,gf,#[.func (.yield (w.heap.size+1)) #[] #[]]++lb,W1,?_,?_,fun _ _=>trivial,?_,fun h=>(by cases h),?_⟩
 .rw [<- hW1];exact hen
 .simp only[resolve,hg];simp[go_sem]
 .simp [invoke,go_sem,eg]
 .refine hc.mono ?_;rintro e W2⟨⟨v,rfl⟩,hj,r2⟩;exact⟨none,_,run_endLoop r2.lp (by show LoopState.ready≠.busy;simp),hd _ _ (zD _) (hJ _ _ _ _ (Nat.le_succ _) r2.lp hj) ((World.putObj_heap_other r2.ne).trans r2.df)⟩
def kG(ops:Array Oper):Bool:=ops.all fun o=>match o.op with|.defer _=>false|_=>true
theorem ni{o:Oper}(hd:∀c,o.op≠.defer c)(h:o.wp P a w K Q):o.wpIn (Fence.wide.inRound l) n P a w K Q:=by
 refine⟨fun _ _=>trivial,?_⟩;rw[Oper.semAt_eq _ _ _ hd];unfold Oper.wp at h;generalize (execOp a.eval o).run P w=r at h|-;cases r with
 | ok x w' =>
  cases x with
  | enter f args=>exact⟨fun h=>(by cases h),CallsIn.inRound l (callsIn_wide.2 h)⟩
  | row row args=>exact⟨fun h=>(by cases h),fun c cs hr=>let ⟨v,w'',r1,s⟩:=h c cs;⟨v,w'',r1,stepsIn_wide.2 s⟩⟩
  | round _ _ _ _ _=>exact h.elim
  | _=>exact h
 | halt x w'=>cases x<;>exact h
theorem rf(hd:kG ops=true)(hQ:¬LetsOut Q)(h:wpOp P ops Q i K a w):wpOpIn (Fence.wide.inRound l) n P ops Q i K a w:=by
 unfold wpOp at h;unfold wpOpIn;cases ho:ops[i]? with
 | none=>simpa[ho]using h
 | some o =>
  simp only[ho]at h|-;split
  .rename_i hw
   simp only[hw,if_true]at h;have:=Array.all_eq_true_iff_forall_mem.1 hd o (Array.mem_of_getElem? ho)
   exact ni (fun c e=>by simp[e]at this) (h.resolve_right fun x=>hQ x.2)
  .rename_i hw
   simp only[hw]at h;exact⟨fun _ _=>trivial,h⟩
theorem j6(hd:kG ops=true)(hQ:¬LetsOut Q):∀(fuel:Nat)(listed:Array Bool)(a:Act)(w:World),
  wpAny P md ops Q fuel listed a w->wpAnyIn (Fence.wide.inRound l) n P md ops Q fuel listed a w
 | 0,_,_,_,h=>h
 | fuel+1,_,_,_,h=>⟨h.1,fun i hi=>wpOpIn_mono (fun a w h=>j6 hd hQ fuel _ a w h) (rf hd hQ (h.2 i hi))⟩
theorem gO{id:Nat}{S:World->Prop}(hm:P.follows .mixedOrders=true)(hd:kG ops=true)(hQ:¬LetsOut Q)(h:wpAnyH P .any ops Q S ops.size (Array.replicate ops.size false) a w.drew):(Code.region id ops true).wpIn (Fence.wide.inRound l) n P Q a w :=
 wpIn_region_any hm (j6 hd hQ _ _ _ _ (wpAny_of_held _ _ _ _ h))
def yg(B k cnt:Nat)(W:World)(e:Ending)(W':World):Prop:=∃C1 C2,e=.returned (.func (.func 88) #[] #[(C1,0),(C2,0)])/\W'.heap[C1]?=some (.cells #[.int .i64 (cnt:Int)] 3)/\W'.heap[C2]?=some (.cells #[(B,k)] 111)/\Below W W W'/\W.heap.size<=C1/\W.heap.size<=C2
theorem Dr(B k cnt:Nat)(W:World):Calls prog 64 #[(B,k),.int .i64 (cnt:Int)] W fun e W'=>yg B k cnt W e W':=by
 have h1:=zF W (.cells #[(B,k)] 111);have h2:=zF (W.alloc (.cells #[(B,k)] 111)) (.cells #[.int .i64 (cnt:Int)] 3);have hb1:Below W W (W.alloc (.cells #[(B,k)] 111)):=(zC _ _).alloc (zD _) _;have hb2:Below W W ((W.alloc (.cells #[(B,k)] 111)).alloc (.cells #[.int .i64 (cnt:Int)] 3)):=hb1.alloc (by simp) _;rw[World.size_alloc]at h2;have H:=aa (zA ((zG _ (.cells #[.int .i64 (cnt:Int)] 3) _ (by simp)).trans h1) (zA h2 hb2));clear h1 h2 hb1 hb2;go_enter func64,ntmps64
 go_wp2
 go_ret
 exact⟨_,_,rfl,H.out.2.1,H.out.1,H.out.2.2,Nat.le_succ _,zD _⟩
theorem BA{ad:Option Addr}{q:Nat}(hc:W.cell? (B,k)=some ((ad,q,cp):V)):Calls prog 47 #[(B,k)] W fun e W'=>yg B k q W e W':=by
 have C:=aa (Dr B k q W);go_enter func47,ntmps47
 go_wp2_with fail
 refine C.out.mono ?_;rintro e W'⟨C1,C2,rfl,h⟩;have H:=aa h;clear h C;go_wp2_with fail
 go_ret
 exact⟨C1,C2,rfl,uh H⟩
theorem jC(m a g:Int)(p c d:Bool)(w:World):Calls prog 38 #[.agg #[m,a,g,p,c,d]] w fun r w'=>r=.returned (.agg (aA (eP m a g p c d) () ()))/\Below w w w':=by
 have C:=aa fun v=>dm m a g p c d v
 obtain⟨_,hA,hR,hb⟩:=br w (.cells #[m,a,g,p,c,d] 24) (.cells #[(0:Int),(0:Int),(0:Int),false,false,false,(0:Int),(0:Int),(0:Int),false,false,false,(0:Int),(0:Int),(0:Int),(0:Int),(0:Int),(),(),false,(0:Int),(0:Int),false,false,false,(0:Int),(0:Int),false,false,false] 32);have H0:=aa (zA hA (zA hR hb));clear hA hR hb;unfold eP;cases hq:aK m a g
 .rw [if_neg (by decide)];rw[hq]at C;show Calls prog 38 #[.agg #[m,a,g,p,c,d]] w fun r w'=>r=.returned (.agg #[(0:Int),(0:Int),(0:Int),false,false,false,(0:Int),(0:Int),(0:Int),false,false,false,(0:Int),(0:Int),(0:Int),(0:Int),(0:Int),(),(),false,(0:Int),(0:Int),false,false,false,(0:Int),(0:Int),false,false,false])/\Below w w w'
  go_enter func38,ntmps38
  go_wp2_with fail
  refine(uh C _).mono ?_;rintro r w1⟨rfl,hb1⟩;obtain⟨hA,hR,hb⟩:=uh H0;have hR1:=(hb1.block (w.heap.size+1) (by simp)).trans hR;have hB1:=hb.trans (hb1.mono hb.size);have H1:=aa (zA hR1 hB1);clear hA hR hb hR1 hB1 hb1 H0 C;go_upto_region 2 with fail
  apply wp_region_lit
  refine wpList_buildTo rfl 32 _ rfl (some 6) rfl #[(0:Int),(0:Int),(0:Int),false,false,false,(0:Int),(0:Int),(0:Int),false,false,false,(0:Int),(0:Int),(0:Int),(0:Int),(0:Int),(),(),false,(0:Int),(0:Int),false,false,false,(0:Int),(0:Int),false,false,false] (by as_aux_lemma=>kernel_rfl) ?_;refine wpList_store_rowTo rfl 32 (.tmp 2) (.tmp 6) rfl rfl (w.heap.size+1) #[(0:Int),(0:Int),(0:Int),false,false,false,(0:Int),(0:Int),(0:Int),false,false,false,(0:Int),(0:Int),(0:Int),(0:Int),(0:Int),(),(),false,(0:Int),(0:Int),false,false,false,(0:Int),(0:Int),false,false,false] rfl rfl 32 _ H1.out.1 aL rfl (by kernel_rfl) ?_;apply wpList_nil
  simp only[Act.put,List.setIfInBounds_toArray,List.set_cons_zero,List.set_cons_succ];go_wp2
  exact bodyPost_ret (v:=.agg #[(0:Int),(0:Int),(0:Int),false,false,false,(0:Int),(0:Int),(0:Int),false,false,false,(0:Int),(0:Int),(0:Int),(0:Int),(0:Int),(),(),false,(0:Int),(0:Int),false,false,false,(0:Int),(0:Int),false,false,false]) (by simp[results,results38,asAddr,ja (setRow_heap w1 (w.heap.size+1) _ #[(0:Int),(0:Int),(0:Int),false,false,false,(0:Int),(0:Int),(0:Int),false,false,false,(0:Int),(0:Int),(0:Int),(0:Int),(0:Int),(),(),false,(0:Int),(0:Int),false,false,false,(0:Int),(0:Int),false,false,false] _ _ H1.out.1)]) rfl ⟨rfl,am H1.out.2 (by omega) _⟩
 .rw [if_pos rfl];rw[hq]at C;show Calls prog 38 #[.agg #[m,a,g,p,c,d]] w fun r w'=>r=.returned (.agg #[m,a,g,p,c,d,m,a,g,p,c,d,(0:Int),(0:Int),.int .i64 (-1),(0:Int),(0:Int),(),(),false,(0:Int),(0:Int),false,false,false,(0:Int),(0:Int),false,false,false])/\Below w w w'
  go_enter func38,ntmps38
  go_wp2_with fail
  refine(uh C _).mono ?_;rintro r w1⟨rfl,hb1⟩;obtain⟨hA,hR,hb⟩:=uh H0;have hA1:=(hb1.block w (by simp;omega)).trans hA;have hR1:=(hb1.block (w.heap.size+1) (by simp)).trans hR;have hB1:=hb.trans (hb1.mono hb.size);have H1:=aa (zA hA1 (zA hR1 hB1));clear hA hR hb hA1 hR1 hB1 hb1 H0 C;go_upto_region 3 with fail
  apply wp_region_lit
  refine wpList_load_row rfl 24 (.tmp 1) rfl w rfl 24 #[m,a,g,p,c,d] (0,0) _ H1.out.1 underlying24 rfl (by kernel_rfl) ?_;refine wpList_load_row rfl 24 (.tmp 1) rfl w rfl 24 #[m,a,g,p,c,d] (0,0) _ H1.out.1 underlying24 rfl (by kernel_rfl) ?_;refine wpList_buildTo rfl 32 _ rfl (some 9) rfl #[m,a,g,p,c,d,m,a,g,p,c,d,(0:Int),(0:Int),.int .i64 (-1),(0:Int),(0:Int),(),(),false,(0:Int),(0:Int),false,false,false,(0:Int),(0:Int),false,false,false] (by as_aux_lemma=>kernel_rfl) ?_;refine wpList_store_rowTo rfl 32 (.tmp 2) (.tmp 9) rfl rfl (w.heap.size+1) #[m,a,g,p,c,d,m,a,g,p,c,d,(0:Int),(0:Int),.int .i64 (-1),(0:Int),(0:Int),(),(),false,(0:Int),(0:Int),false,false,false,(0:Int),(0:Int),false,false,false] rfl rfl 32 _ H1.out.2.1 aL rfl (by kernel_rfl) ?_;apply wpList_nil
  simp only[Act.put,List.setIfInBounds_toArray,List.set_cons_zero,List.set_cons_succ];go_wp2
  exact bodyPost_ret (v:=.agg #[m,a,g,p,c,d,m,a,g,p,c,d,(0:Int),(0:Int),.int .i64 (-1),(0:Int),(0:Int),(),(),false,(0:Int),(0:Int),false,false,false,(0:Int),(0:Int),false,false,false]) (by simp[results,results38,asAddr,ja (setRow_heap w1 (w.heap.size+1) _ #[m,a,g,p,c,d,m,a,g,p,c,d,(0:Int),(0:Int),.int .i64 (-1),(0:Int),(0:Int),(),(),false,(0:Int),(0:Int),false,false,false,(0:Int),(0:Int),false,false,false] _ _ H1.out.2.1)]) rfl ⟨rfl,am H1.out.2.2 (by omega) _⟩
end Go.Proofs.YtjdgiimfpkideaaGreatDoor
