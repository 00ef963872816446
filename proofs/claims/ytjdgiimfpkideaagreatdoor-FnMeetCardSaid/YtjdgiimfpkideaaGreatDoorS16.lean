/- OptAp2 LwEn FmS MtP FmU -/
import Derived.Test.YtjdgiimfpkideaaGreatDoorS09
import Derived.Test.YtjdgiimfpkideaaGreatDoorS12
set_option maxHeartbeats 16000000
set_option maxRecDepth 100000
set_option linter.unusedSimpArgs false
namespace Go.Proofs.YtjdgiimfpkideaaGreatDoor
open Go.RowKit Go.Proofs.Tryz
variable {ops:Array Oper} {rest:List Oper} {o:Oper} {a:Act} {Q:Exit->Act->World->Prop} {W w:World} {base n B:Nat} {v:Value} {P:Program} {T:TypeId} {X Z:List Value} {L:List Op.Pk}
theorem fY{wr:World}(hgd:o.guard=none)(s x:Operand)(ho:o.op=.call {callee:=.builtin .append,args:=#[s,x],argTypes:=#[28,28]})(base:Nat)(v:Value)(F:List Op.Opt)(n:Nat)(hn:F.length=n)(hs:a.eval s=v)(hown:wr.ownsRow base 105 2 v n (aj F))(kd:Int)(dt:ByteArray)(hx:a.eval x=.slice (some (wr,0)) 1 1)(hlen:n<=1000)(hbase:base<=wr.heap.size)(h:∀v' w',w'.ownsRow base 105 2 v' (n+1) (aj (F++[⟨kd,dt⟩]))->(wr.alloc (.cells #[kd,dt] 105)).grownBy w' v.ownBlock->(v'.ownBlock=v.ownBlock\/v'.ownBlock=some (wr.heap.size+1))->wpList prog ops Q rest (a.put o.dst v') w'):wpList prog ops Q (o::rest) a (wr.alloc (.cells #[kd,dt] 105)):=by
 obtain⟨i0,hi0,hz0,hz1,hz2⟩:=kW;refine wpList_append_own_at _ hgd s x 28 ho base 105 i0 _ 2 24 underlying28 hi0 hz0 hz1 hz2 rfl (by decide) v n (aj F) hs (hown.alloc _) (wr,0) 1 1 [kd,dt] hx rfl ?_ ?_ ?_ ?_ ?_ ?_
 .intro i u hu;rw[Addr.add_lit,Nat.zero_add,World.cell?_alloc_at _ _ _ _ rfl,<- hu];simp
 .intro u hu;simp only[List.mem_cons,List.not_mem_nil,or_false]at hu;rcases hu with rfl|rfl<;>rfl
 .unfold maxLen;omega
 .omega
 .simp;omega
 .intro v' w2 hown2 hg2 _ hat;refine h v' w2 ?_ hg2 (by simpa using hat);rw[bV];exact hown2
theorem mT(F:List Op.Opt):∀u∈aj F,u.oneCell'=true:=by
 intro u hu;simp only[aj,List.mem_flatMap,List.mem_cons,List.not_mem_nil,or_false]at hu;obtain⟨f,_,rfl|rfl⟩:=hu<;>rfl
theorem fZ{s:Value}{G F:List Op.Opt}(ty:TypeId)(hown:W.ownsRow base 105 2 v G.length (aj G))(hs:HoldsO W s F)(hG:G.length<=1048576)(hF:F.length<=1048576)(hbase:base<=W.heap.size):∃v' W',(Builtin.append_ #[28,28] ty #[v,s]).run prog W=.ok v' W'/\W'.ownsRow base 105 2 v' (G++F).length (aj (G++F))/\W.grownBy W' v.ownBlock:=by
 obtain⟨i,hi,hz,hsz,hby⟩:=kW
 have key:∀(a:Addr)(cp:Nat),s=.slice (some a) F.length cp->(∀j u,(aj F)[j]?=some u->W.cell? (a.add j)=some u) ->
   ∃v' W',(Builtin.append_ #[28,28] ty #[v,s]).run prog W=.ok v' W'/\W'.ownsRow base 105 2 v' (G++F).length (aj (G++F))/\W.grownBy W' v.ownBlock:=by
  rintro a cp rfl hn
  obtain⟨v',W',h1,h2,h3,_⟩:=run_append_own (P:=prog) W base 28 ty 105 i _ 2 24 underlying28 hi hz hsz hby rfl (by decide) v G.length (aj G) hown a F.length cp (aj F) (bU F) hn (mT F)
   (by unfold maxLen;omega) (by omega) hbase
  exact⟨v',W',h1,by rw[List.length_append,bV];exact h2,h3⟩
 rcases hs with⟨ad,cp,rfl,rfl⟩|⟨g,cp,cur,rfl,hg,hg2,hg3⟩
 .cases ad with
  | some a=>exact key a cp rfl (fun j u h=>by cases h)
  | none =>
   refine⟨v,W,?_,by rw[List.append_nil];exact hown,⟨rfl,rfl,rfl,zD _,fun _ _ _=>rfl⟩⟩;rcases hown.2 with⟨rfl,_⟩|⟨g,cap,cur,rfl,_,_,hnc,_⟩
   .simp [Builtin.append_,run_underlying underlying28,sizeOf,typeInfo,hi,Builtin.lenOf,Builtin.firstCells]
   .simp [Builtin.append_,run_underlying underlying28,sizeOf,typeInfo,hi,Builtin.lenOf,Builtin.firstCells,hnc,storeCells]
 .refine key (g,0) cp rfl (fun j u h=>?_);have hadd:(⟨g,0,none⟩:Addr).add j=⟨g,j,none⟩:=by unfold Addr.add;split<;>simp_all
  rw[hadd,cr hg,hg3 j (by have:=(List.getElem?_eq_some_iff.1 h).1;rw[bU]at this;exact this)];exact h
theorem fM(hgd:o.guard=none)(s x:Operand)(ho:o.op=.call {callee:=.builtin .append,args:=#[s,x],argTypes:=#[28,28]})(base:Nat)(v sv:Value)(G F:List Op.Opt)(hs:a.eval s=v)(hx:a.eval x=sv)(hown:W.ownsRow base 105 2 v G.length (aj G))(hsv:HoldsO W sv F)(hG:G.length<=1048576)(hF:F.length<=1048576)(hbase:base<=W.heap.size)(h:∀v' w',w'.ownsRow base 105 2 v' (G++F).length (aj (G++F))->W.grownBy w' v.ownBlock->wpList prog ops Q rest (a.put o.dst v') w'):wpList prog ops Q (o::rest) a W:=by
 refine wpList_plain hgd fun K hK=>?_
 obtain⟨v',w',hr,h2,h3⟩:=fZ (W:=W) o.type hown hsv hG hF hbase;unfold Oper.wp execOp;simp only[ho,resolve,invoke,builtin,Sem.run_bind,Sem.run_pure,Result.andThen_ok,List.map_toArray,List.map_cons,List.map_nil,hs,hx,hr];exact hK _ _ (h v' w' h2 h3)
theorem ew{w':World}{e:TypeId}{size:Nat}{xs:List Value}(h:w.ownsRow base e size v n xs)(hb:∀g,v.ownBlock=some g->w'.heap[g]?=w.heap[g]?):w'.ownsRow base e size v n xs :=
 ⟨h.1,h.2.imp id fun⟨g,cap,cur,h1,h2,h3,h4⟩=>⟨g,cap,cur,h1,h2,(hb g (by rw[h1];rfl)).trans h3,h4⟩⟩
def G7:Prop:=(∀(m a g:Int)(p c d:Bool)(W:World),(binOp .eql 24 (.agg #[m,a,g,p,c,d]) (.agg #[m,a,g,p,c,d])).run prog W=.ok true W) /\
 ∀(x y:Operand)(xs ys:Array Value)(W:World),(eqGuard .eql 24 x y (.agg xs) (.agg ys)).run prog W=.ok () W
theorem Cq(e:En)(v1 v2 u1 u2:Value)(F1 F2:List Op.Opt)(w:World)(l1:F1.length<=2000)(l2:F2.length<=2000)(h1:HoldsO w v1 F1)(h2:HoldsO w v2 F2)(h3:HoldsO w u1 F1)(h4:HoldsO w u2 F2)(hL:yd)(hC:G7):Calls prog 8 #[.agg (aA e v1 v2),.agg (aA e u1 u2)] w fun r w'=>r=.returned (.bool true)/\Below w w w':=by
 have C7:=aa fun W (hb:Below w w W)=>lwO v1 u1 F1 W l1 (h1.below hb rfl) (h3.below hb rfl)
 have C8:=aa fun W (hb:Below w w W)=>lwO v2 u2 F2 W l2 (h2.below hb rfl) (h4.below hb rfl)
 obtain⟨x1,y1,rfl⟩:=h1.form;obtain⟨x2,y2,rfl⟩:=h2.form;obtain⟨x3,y3,rfl⟩:=h3.form;obtain⟨x4,y4,rfl⟩:=h4.form;obtain⟨m1,a1,g1,p1,c1,d1,m2,a2,g2,p2,c2,d2,st,tr,du,id,fl,up,i1,i2,i3,i4,i5,o1,o2,o3,o4,o5⟩:=e;have q1:∀W,(binOp .eql 30 (.agg #[i1,i2,i3,i4,i5]) (.agg #[i1,i2,i3,i4,i5])).run prog W=.ok true W:=fun W=>by rw[hL.1];simp
 have q2:∀W,(binOp .eql 30 (.agg #[o1,o2,o3,o4,o5]) (.agg #[o1,o2,o3,o4,o5])).run prog W=.ok true W:=fun W=>by rw[hL.1];simp
 have q3:=hL.2;have q4:=hC.1 m1 a1 g1 p1 c1 d1;have q5:=hC.1 m2 a2 g2 p2 c2 d2;have q6:=hC.2;clear hL hC h1 h2 h3 h4 l1 l2;generalize F1.length=n1 at*;generalize F2.length=n2 at*;unfold aA;dsimp only;obtain⟨A,hA⟩ := ex (#[m1,a1,g1,p1,c1,d1,m2,a2,g2,p2,c2,d2,st,tr,du,id,fl,(x1,n1,y1),(x2,n2,y2),up,i1,i2,i3,i4,i5,o1,o2,o3,o4,o5]:Array Value);obtain⟨B,hB⟩ := ex (#[m1,a1,g1,p1,c1,d1,m2,a2,g2,p2,c2,d2,st,tr,du,id,fl,(x3,n1,y3),(x4,n2,y4),up,i1,i2,i3,i4,i5,o1,o2,o3,o4,o5]:Array Value);have HW:Hid (∀W,Below (w.heap.size+1+1) ((w.alloc (.cells A 32)).alloc (.cells B 32)) W->W.cell? (w,18)=some (.slice x2 n2 y2)/\W.cell? (w.heap.size+1,18)=some (.slice x4 n2 y4)/\Below w w W):=by
  refine aa fun W h=>?_
  have e0:=zF w (.cells A 32);have s1:(w.alloc (.cells A 32)).heap.size=w.heap.size+1:=by simp
  have e1:=zF (w.alloc (.cells A 32)) (.cells B 32);rw[s1]at e1;have e2:((w.alloc (.cells A 32)).alloc (.cells B 32)).heap[w.heap.size]?=some (.cells A 32):=by
   exact(zG _ _ _ (by rw[s1];omega)).trans e0
  refine⟨?_,?_,?_⟩
  .rw [cr ((h.block _ (by omega)).trans e2),<- hA];rfl
  .rw [cr ((h.block _ (by omega)).trans e1),<- hB];rfl
  .exact (((zC _ _).alloc (zD _) _).alloc (by rw[s1];omega) _).trans (h.mono (by omega))
 have HA:=aa hA;have HB:=aa hB;clear hA hB;go_enter func8,ntmps8
 go_wp2_with fail
 rw[uh HA,uh HB];refine(uh C7 _ ((uh HW _ (zC _ _)).2.2)).mono ?_;rintro e w1⟨rfl,hb1⟩;have hb2:Below (w.heap.size+1+1) ((w.alloc (.cells A 32)).alloc (.cells B 32)) w1:=hb1.mono (by simp);obtain⟨k0,k1,hb3⟩:=uh HW _ hb2;have H1:=aa (zA hb2 hb3);clear hb1 hb2 hb3;go_wp2_with fail
 refine(uh C8 _ H1.out.2).mono ?_;rintro e w2⟨rfl,hb4⟩;have H2:=aa (H1.out.2.trans (hb4.mono H1.out.2.size));clear hb4;go_wp2
 go_ret
 exact⟨rfl,uh H2⟩
def G8:Prop:=(∀(m a:Int)(p c d:Bool)(W:World),(binOp .neq 30 (.agg #[m,a,p,c,d]) (.agg #[m,a,p,c,d])).run prog W=.ok false W) /\
 ∀(x y:Operand)(xs ys:Array Value)(W:World),(eqGuard .neq 30 x y (.agg xs) (.agg ys)).run prog W=.ok () W
theorem Ev(cs:Array Value)(s:Int)(hs:cs[12]?=some (s:V))(w:World):Calls prog 10 #[.agg cs] w fun r w'=>r=.returned (.bool (s==2||s==3))/\Below w w w':=by
 have h0:(w.alloc (.cells cs 32)).cell? (w,12)=some (.int .i64 s):=by rw[cr (zF w _)];exact hs
 have hb:Below w w (w.alloc (.cells cs 32)):=(zC _ _).alloc (zD _) _;have H:=aa (zA h0 hb);clear h0 hb hs;go_enter func10,ntmps10
 refine wp_seq_k fun K hK=>?_
 apply wp_region_lit
 refine Great.wpList_allocTo rfl (some 1) rfl (w,0) (.cells cs 32) (by simp[go_sem]) ?_;refine Great.wpList_readTo rfl (some 2) rfl false (by simp[go_sem]) ?_;refine hK _ _ ?_;clear hK K;simp only[Act.put,sA,sZ,sS];generalize w.alloc (.cells cs 32)=q at H|-;obtain⟨h0,hb⟩:=uh H;clear hb;cases h2:(s==2)
 .go_wp2_with fail
  go_ret
  exact⟨by first|rfl|simp[h2],H.out.2⟩
 .go_wp2_with fail
  go_ret
  exact⟨by first|rfl|simp[h2],H.out.2⟩
theorem og(v:Value)(dst:Option Tmp)(hdst:o.dst=dst)(b:Bool)(hw:Region.wanted o (yielded ops a.tmps)=b)(hrun:b=true->(execOp a.eval o).run P w=.ok (.value v) w)(h:wpList P ops Q rest (a.put dst (if b=true then v else undef)) w):wpList P ops Q (o::rest) a w:=by
 unfold wpList;cases b
 .rw [hw,if_neg (by decide),hdst];exact h
 .rw [hw,if_pos rfl];left
  unfold Oper.wp;rw[hrun rfl,Oper.upon_value,hdst];exact h
theorem mb{a':Act}(v:Value)(h:wpList P ops Q rest a' w)(hw:Region.wanted o (yielded ops a.tmps)=true:=by rfl)(hrun:(execOp a.eval o).run P w=.ok (.value v) w:=by go_simp)(ha:a.put o.dst v=a':=by((try simp only[Act.put,sA,sZ,sS]);try exact rfl)):wpList P ops Q (o::rest) a w :=
 og v o.dst rfl true hw (fun _=>hrun) (by rw[if_pos rfl,ha];exact h)
def Lq9(w:World)(cs:Array Value)(m1 g1:Int)(a1:Nat)(p1 c1 d1:Bool)(m2 g2:Int)(a2:Nat)(p2 c2 d2:Bool)(q:World):Prop :=
 q.heap[w.heap.size]?=some (.cells cs 34)/\q.heap[w.heap.size+1]?=some (.cells #[m1,.int .i64 (a1:Nat),g1,p1,c1,d1] 24)/\q.heap[w.heap.size+1+1]?=some (.cells #[m2,.int .i64 (a2:Nat),g2,p2,c2,d2] 24)/\Below w w q
theorem Ew{k:Nat}(hk:k<4294967296)(hn:n<4294967296)(h:k &&& n=n):bits .and .i64 (k:Int) (n:Int)=(n:Int):=by
 rw[kP k n hk hn,h]
theorem EP(cs:Array Value)(x1 z1:Int)(kx kz:Nat)(x3 x4 x5 z3 z4 z5:Bool)(m1 g1:Int)(a1:Nat)(p1 c1 d1:Bool)(m2 g2:Int)(a2:Nat)(p2 c2 d2:Bool)(hx:cs[20]?=some (.int .i64 x1)/\cs[21]?=some (.int .i64 (kx:Nat))/\cs[22]?=some (.bool x3)/\cs[23]?=some (.bool x4)/\cs[24]?=some (x5:V))(hz:cs[25]?=some (.int .i64 z1)/\cs[26]?=some (.int .i64 (kz:Nat))/\cs[27]?=some (.bool z3)/\cs[28]?=some (.bool z4)/\cs[29]?=some (z5:V))(hz2:cs[50]?=some (.int .i64 z1)/\cs[51]?=some (.int .i64 (kz:Nat))/\cs[52]?=some (.bool z3)/\cs[53]?=some (.bool z4)/\cs[54]?=some (z5:V))(hx2:cs[55]?=some (.int .i64 x1)/\cs[56]?=some (.int .i64 (kx:Nat))/\cs[57]?=some (.bool x3)/\cs[58]?=some (.bool x4)/\cs[59]?=some (x5:V))(hP:(x3=true->(p1&&p2)=true)/\(z3=true->(p1&&p2)=true)/\(x4=true->(c1&&c2)=true)/\(z4=true->(c1&&c2)=true)/\(x5=true->(d1&&d2)=true)/\(z5=true->(d1&&d2)=true))(hka:kx<4294967296/\a1<4294967296/\kx &&& a1=a1)(hkb:kz<4294967296/\a2<4294967296/\kz &&& a2=a2)(hL:G8)(w:World):Calls prog 9 #[.agg cs,.agg #[m1,.int .i64 (a1:Nat),g1,p1,c1,d1],.agg #[m2,.int .i64 (a2:Nat),g2,p2,c2,d2]] w fun r w'=>r=.returned (.bool true)/\Below w w w':=by
 have e1:=Ew hka.1 hka.2.1 hka.2.2;have e2:=Ew hkb.1 hkb.2.1 hkb.2.2;have H0:Hid (Lq9 w cs m1 g1 a1 p1 c1 d1 m2 g2 a2 p2 c2 d2 (((w.alloc (.cells cs 34)).alloc (.cells #[m1,.int .i64 (a1:Nat),g1,p1,c1,d1] 24)).alloc (.cells #[m2,.int .i64 (a2:Nat),g2,p2,c2,d2] 24))):=by
  obtain⟨h1,h2,h3,h4⟩:=kh w (.cells cs 34) (.cells #[m1,.int .i64 (a1:Nat),g1,p1,c1,d1] 24) (.cells #[m2,.int .i64 (a2:Nat),g2,p2,c2,d2] 24);exact aa ⟨h1,h2,h3,h4⟩
 have FX:=aa (zA hx (zA hz (zA hz2 hx2)));have n1:=hL.1 x1 kx x3 x4 x5;have n2:=hL.1 z1 kz z3 z4 z5;have n3:=hL.2;have HP:=aa hP;clear hx hz hz2 hx2 hP hka hkb hL;go_enter func9,ntmps9
 refine wp_seq_k fun K hK=>?_
 apply wp_region_lit
 refine Great.wpList_allocTo rfl (some 3) rfl (w,0) (.cells cs 34) (by simp[go_sem]) ?_;refine Great.wpList_allocTo rfl (some 4) rfl (w.heap.size+1,0) (.cells #[m1,.int .i64 (a1:Nat),g1,p1,c1,d1] 24) (by simp[go_sem]) ?_;refine Great.wpList_allocTo rfl (some 5) rfl (.pointer (some ⟨w.heap.size+1+1,0,none⟩)) (.cells #[m2,.int .i64 (a2:Nat),g2,p2,c2,d2] 24) (by simp[go_sem]) ?_;refine Great.wpList_readTo rfl (some 6) rfl false (by simp[go_sem]) ?_;refine hK _ _ ?_;clear hK K;simp only[Act.put,sA,sZ,sS];generalize ((w.alloc (.cells cs 34)).alloc (.cells #[m1,.int .i64 (a1:Nat),g1,p1,c1,d1] 24)).alloc (.cells #[m2,.int .i64 (a2:Nat),g2,p2,c2,d2] 24)=q at H0|-;have HC:Hid (q.cell? (w,20)=some (.int .i64 x1)/\q.cell? (w,21)=some (.int .i64 (kx:Nat))/\q.cell? (w,22)=some (.bool x3)/\q.cell? (w,23)=some (.bool x4)/\q.cell? (w,24)=some (.bool x5)/\q.cell? (w,25)=some (.int .i64 z1)/\q.cell? (w,26)=some (.int .i64 (kz:Nat))/\q.cell? (w,27)=some (.bool z3)/\q.cell? (w,28)=some (.bool z4)/\q.cell? (w,29)=some (.bool z5)/\q.cell? (w,50)=some (.int .i64 z1)/\q.cell? (w,51)=some (.int .i64 (kz:Nat))/\q.cell? (w,52)=some (.bool z3)/\q.cell? (w,53)=some (.bool z4)/\q.cell? (w,54)=some (.bool z5)/\q.cell? (w,55)=some (.int .i64 x1)/\q.cell? (w,56)=some (.int .i64 (kx:Nat))/\q.cell? (w,57)=some (.bool x3)/\q.cell? (w,58)=some (.bool x4)/\q.cell? (w,59)=some (.bool x5)/\q.cell? (w.heap.size+1,0)=some (.int .i64 m1)/\q.cell? (w.heap.size+1,1)=some (.int .i64 (a1:Nat))/\q.cell? (w.heap.size+1,2)=some (.int .i64 g1)/\q.cell? (w.heap.size+1,3)=some (.bool p1)/\q.cell? (w.heap.size+1,4)=some (.bool c1)/\q.cell? (w.heap.size+1,5)=some (.bool d1)/\q.cell? ⟨w.heap.size+1+1,0,none⟩=some (.int .i64 m2)/\q.cell? ⟨w.heap.size+1+1,1,none⟩=some (.int .i64 (a2:Nat))/\q.cell? ⟨w.heap.size+1+1,2,none⟩=some (.int .i64 g2)/\q.cell? ⟨w.heap.size+1+1,3,none⟩=some (.bool p2)/\q.cell? ⟨w.heap.size+1+1,4,none⟩=some (.bool c2)/\q.cell? ⟨w.heap.size+1+1,5,none⟩=some (d2:V)):=by
  obtain⟨q0,q1,q2,_⟩:=uh H0;obtain⟨⟨u1,u2,u3,u4,u5⟩,⟨v1,v2,v3,v4,v5⟩,⟨y1,y2,y3,y4,y5⟩,t1,t2,t3,t4,t5⟩:=uh FX;exact aa ⟨by rw[cr q0];exact u1,by rw[cr q0];exact u2,by rw[cr q0];exact u3,by rw[cr q0];exact u4,by rw[cr q0];exact u5,by rw[cr q0];exact v1,by rw[cr q0];exact v2,by rw[cr q0];exact v3,by rw[cr q0];exact v4,by rw[cr q0];exact v5,by rw[cr q0];exact y1,by rw[cr q0];exact y2,by rw[cr q0];exact y3,by rw[cr q0];exact y4,by rw[cr q0];exact y5,by rw[cr q0];exact t1,by rw[cr q0];exact t2,by rw[cr q0];exact t3,by rw[cr q0];exact t4,by rw[cr q0];exact t5,cv q1,cv q1,cv q1,cv q1,cv q1,cv q1,cv q2,cv q2,cv q2,cv q2,cv q2,cv q2⟩
 have HB:=aa H0.out.2.2.2;clear FX H0;generalize w.heap.size=B at*;obtain⟨k0,k1,k2,k3,k4,k5,k6,k7,k8,k9,k10,k11,k12,k13,k14,k15,k16,k17,k18,k19,k20,k21,k22,k23,k24,k25,k26,k27,k28,k29,k30,k31⟩:=uh HC;clear HC;go_upto_region 3 with fail
 go_cut [7] (fun v wx=>v=.bool (p1&&p2)/\wx=q)
 case first=>cases p1<;>(go_wp2_with fail;go_meet;exact⟨rfl,rfl⟩)
 case rest =>
  obtain⟨rfl,rfl⟩:=hcut;rename World=>q
  go_upto_region 4 with fail
  go_cut [8] (fun v wx=>v=.bool (c1&&c2)/\wx=q)
  case first=>cases c1<;>(go_wp2_with fail;go_meet;exact⟨rfl,rfl⟩)
  case rest =>
   obtain⟨rfl,rfl⟩:=hcut;rename World=>q
   go_upto_region 5 with fail
   go_cut [9] (fun v wx=>v=.bool (d1&&d2)/\wx=q)
   case first=>cases d1<;>(go_wp2_with fail;go_meet;exact⟨rfl,rfl⟩)
   case rest =>
    obtain⟨rfl,rfl⟩:=hcut;rename World=>q
    go_upto_region 6 with fail
    go_cut [10] (fun v wx=>v=.bool true/\wx=q)
    case first =>
     obtain⟨w1,w2,w3,w4,w5,w6⟩:=uh HP;generalize (p1&&p2)=P at*;generalize (c1&&c2)=C at*;generalize (d1&&d2)=D at*;clear HP HB e1 e2 n1 n2 n3 k0 k1 k5 k6 k7 k8 k9 k10 k11 k15 k16 k17 k18 k19 k20 k21 k22 k23 k24 k25 k26 k27 k28 k29 k30 k31;apply wp_region_lit
     refine mb (B,0) ?_;refine mb (B,20) ?_;refine mb (B,22) ?_;refine mb x3 ?_;refine mb (.bool (!x3)) ?_;refine mb (.bool (!x3)) ?_;refine og P (some 51) rfl x3 (by cases x3<;>rfl) (fun _=>by go_simp) ?_;simp only[Act.put,sA,sZ,sS];refine mb true ?_ (hrun:=by(cases x3<;>first|go_simp|(obtain rfl:P=true:=w1 rfl;go_simp)));refine mb true ?_;refine mb (B,30) ?_;refine mb (B,50) ?_;refine mb (B,52) ?_;refine mb z3 ?_;refine mb (.bool (!z3)) ?_;refine mb (.bool (!z3)) ?_;refine og P (some 60) rfl z3 (by cases z3<;>rfl) (fun _=>by go_simp) ?_;simp only[Act.put,sA,sZ,sS];refine mb true ?_ (hrun:=by(cases z3<;>first|go_simp|(obtain rfl:P=true:=w2 rfl;go_simp)));refine mb true ?_;refine mb true ?_;refine mb (B,0) ?_;refine mb (B,20) ?_;refine mb (B,23) ?_;refine mb x4 ?_;refine mb (.bool (!x4)) ?_;refine mb (.bool (!x4)) ?_;refine og C (some 70) rfl x4 (by cases x4<;>rfl) (fun _=>by go_simp) ?_;simp only[Act.put,sA,sZ,sS];refine mb true ?_ (hrun:=by(cases x4<;>first|go_simp|(obtain rfl:C=true:=w3 rfl;go_simp)));refine mb true ?_;refine mb true ?_;refine mb (B,30) ?_;refine mb (B,50) ?_;refine mb (B,53) ?_;refine mb z4 ?_;refine mb (.bool (!z4)) ?_;refine mb (.bool (!z4)) ?_;refine og C (some 80) rfl z4 (by cases z4<;>rfl) (fun _=>by go_simp) ?_;simp only[Act.put,sA,sZ,sS];refine mb true ?_ (hrun:=by(cases z4<;>first|go_simp|(obtain rfl:C=true:=w4 rfl;go_simp)));refine mb true ?_;refine mb true ?_;refine mb (B,0) ?_;refine mb (B,20) ?_;refine mb (B,24) ?_;refine mb x5 ?_;refine mb (.bool (!x5)) ?_;refine mb (.bool (!x5)) ?_;refine og D (some 90) rfl x5 (by cases x5<;>rfl) (fun _=>by go_simp) ?_;simp only[Act.put,sA,sZ,sS];refine mb true ?_ (hrun:=by(cases x5<;>first|go_simp|(obtain rfl:D=true:=w5 rfl;go_simp)));refine mb true ?_;refine mb true ?_;refine mb (B,30) ?_;refine mb (B,50) ?_;refine mb (B,54) ?_;refine mb z5 ?_;refine mb (.bool (!z5)) ?_;refine mb (.bool (!z5)) ?_;refine og D (some 100) rfl z5 (by cases z5<;>rfl) (fun _=>by go_simp) ?_;simp only[Act.put,sA,sZ,sS];refine mb true ?_ (hrun:=by(cases z5<;>first|go_simp|(obtain rfl:D=true:=w6 rfl;go_simp)));refine mb true ?_;refine mb true ?_;clear w1 w2 w3 w4 w5 w6;generalize (if x3=true then Value.bool P else undef)=v0;generalize (if z3=true then Value.bool P else undef)=v1;generalize (if x4=true then Value.bool C else undef)=v2;generalize (if z4=true then Value.bool C else undef)=v3;generalize (if x5=true then Value.bool D else undef)=v4;generalize (if z5=true then Value.bool D else undef)=v5;go_wp2_with fail
     go_meet;exact⟨rfl,rfl⟩
    case rest =>
     obtain⟨rfl,rfl⟩:=hcut;rename World=>q
     go_wp2_with fail
     go_ret
     exact⟨rfl,uh HB⟩
theorem tc(ad:Option Addr)(n cp:Nat)(hn:n<=cp)(hc:ad=none->cp=0)(z:World):(Instr.slice 60 (ad,n,cp) (some ((0:Int):V)) none none).run prog z=.ok (ad,n,cp) z:=by
 have hs:=Tryz.sizeOf85 z;rw[run_slice_l (P:=prog) (w:=z) 60 ad n cp (by rw[fp];exact underlying60) .i64 0 (by omega) (by omega),fp,hs];cases ad with
 | none =>
  have h1:=hc rfl;have h2:n=0:=by omega
  subst h1 h2;simp[Result.andThen,sliced]
 | some a =>
  obtain⟨b,o,c⟩:=a;cases c<;>simp[Result.andThen,sliced,Addr.add]
theorem qW(h:Wr base T W B X Z v L):Calls prog 41 #[(B,X.length)] W fun e W'=>e=.returned (.tuple #[])/\∃v',Wr base T W' B X Z v' L.tail/\Fr B v v' W W':=by
 obtain⟨v',n,n',ad,cp,m,hv,hn,hm,hs,hL',ho⟩:∃(v':Value)(n n':Nat)(ad:Option Addr)(cp m:Nat),v=.slice ad n cp/\n<=40/\(if(n:Int)<1 then(n:Int)else 1)=(m:Int)/\(∀z,(Instr.slice 60 (ad,n,cp) (some (.int .i64 (m:Int))) none none).run prog z=.ok v' z)/\HoldsK W base v' L.tail/\∀g,v'.ownBlock=some g->v.ownBlock=some g:=by
  have hle:=h.le;match L,h.hk with
  | [],hk =>
   obtain⟨a,c,e⟩:=hk.form;refine⟨v,0,0,a,c,0,e,by omega,by simp,fun z=>?_,hk,fun _ hg=>hg⟩;rw[e];refine tc a 0 c (Nat.zero_le _) (fun ea=>?_) z;rcases hk with⟨e1,_⟩|⟨g,o,cp,cur,e1,_⟩
   .rw [e1]at e;injection e with _ _ e;exact e.symm
   .rw [e1,ea]at e;injection e with e;cases e
  | p::P,hk =>
   obtain⟨g,o,cp,e,_⟩:=hk.first;obtain⟨b,hb1,hb2,hs⟩:=kg g o P.length cp;rw[e]at hk;obtain⟨p',P',e2,_,hk'⟩:=hk.tail hb1 hb2;cases e2;simp only[List.length_cons]at hle;refine⟨_,P.length+1,0,_,_,1,e,hle,by rw[if_neg (by omega)];rfl,hs,hk',fun g' hg=>?_⟩;rw[e];rcases hb2 with rfl|rfl<;>exact hg
 have hc:=bI h.row;have hf:=aX h.row X.length;subst hv;obtain⟨a2,c2,e2⟩:=hL'.form;subst e2;have HW:=aa h;have HL:=aa (zA hL' ho);have HT:Hid (L.tail.length<=40):=aa (by have:=h.le;simp;omega);clear h hL' ho;generalize hk:X.length=k at hc hf|-;generalize hq:L.tail.length=nt at*;have hn0:n<=9223372036854775807:=by omega
 have hm2:min (1:Int) (n:Int)=(m:Int):=by omega
 have hS:W.drew.cell? (B,k)=some (.slice ad n cp):=hc;have hF:W.drew.frozen? (B,k)=false:=hf;go_enter func41,ntmps41
 go_upto_region 0 with fail
 go_region
 go_wp2
 refine zI ?_;refine⟨rfl,(a2,nt,c2),?_,?_⟩
 .rw [<- hk];exact(HW.out.set HL.out.1 (by rw[hq];exact uh HT)).below (zC _ _).drew
 .exact (Fr.cells _ _ _ (fun g hg=>Or.inl (HL.out.2 g hg)) k [_]).trans (Fr.of_below (zC _ _).drew)
theorem eH{K:Act->World->Prop}(s x:Operand)(ho:o.op=.call {callee:=.builtin .append,args:=#[s,x],argTypes:=#[60,60]}){sv:Value}{P F:List Op.Pk}(hs:a.eval s=v)(hx:a.eval x=sv)(hv:HoldsK W base v P)(hsv:HoldsP W sv F)(hP:P.length<=1000000)(hF:F.length<=1000000)(hbase:base<=W.heap.size)(h:∀v' w',HoldsK w' base v' (P++F)->W.grownBy w' v.ownBlock->(∀g,v'.ownBlock=some g->v.ownBlock=some g\/W.heap.size<=g)->K (a.put o.dst v') w'):o.wp prog a W K Q:=by
 obtain⟨v',w',hr,h2,h3,h4⟩:=eX (W:=W) o.type hv hsv hP hF hbase;unfold Oper.wp execOp;simp only[ho,resolve,invoke,builtin,Sem.run_bind,Sem.run_pure,Result.andThen_ok,List.map_toArray,List.map_cons,List.map_nil,hs,hx,hr];exact h v' w' h2 h3 h4
structure Py(base:Nat)(T:TypeId)(W:World)(B A k:Nat)(X Z:List Value)(v:Value)(L:List Op.Pk)(p:Op.Pk)(y:World):Prop where
 w:Wr base T y B X Z v L
 fr:Fr B v v W y
 pa:y.heap[A]?=some (.cells #[p.code,p.id,p.data] 85)
 ek:X.length=k
structure Pz(base:Nat)(T:TypeId)(W:World)(B k:Nat)(X Z:List Value)(v v':Value)(L:List Op.Pk)(y:World):Prop where
 row:y.heap[B]?=some (.cells (X++[v]++Z).toArray T)
 hk:HoldsK y base v' L
 fr:Fr B v v' W y
 ek:X.length=k
 bs:base<=y.heap.size
 nT:T≠85
section
variable {base:Nat} {T:TypeId} {W:World} {B A k:Nat} {X Z:List Value} {v v':Value} {L:List Op.Pk} {p:Op.Pk} {y y':World}
theorem Py.cx(h:Py base T W B A k X Z v L p y):y.cell? (B,k)=some v:=by rw[<- h.ek];exact bI h.w.row
theorem Py.px(h:Py base T W B A k X Z v L p y):y.cell? (A,0)=some (.int .i64 p.code)/\y.cell? (A,1)=some (.int .i64 p.id)/\y.cell? (A,2)=some (p.data:V) :=
 ⟨by rw[cr h.pa];rfl,by rw[cr h.pa];rfl,by rw[cr h.pa];rfl⟩
theorem Py.new(h:Py base T W B A k X Z v L p y)(r:Op.Pk):Py base T W B A k X Z v L p (y.alloc (.cells #[r.code,r.id,r.data] 85))/\HoldsP (y.alloc (.cells #[r.code,r.id,r.data] 85)) (.slice (some (y,0)) 1 1) [r]:=by
 have hb:Below y y (y.alloc (.cells #[r.code,r.id,r.data] 85)):=(zC _ _).alloc (zD _) _;refine⟨⟨h.w.below hb,h.fr.trans (Fr.of_below hb),(hb.block A (ge.1 h.pa).1).trans h.pa,h.ek⟩,Or.inr ⟨_,1,_,rfl,zF _ _,zD 3,fun j hj=>?_⟩⟩;have:j=0\/j=1\/j=2:=by simp at hj;omega
 rcases this with rfl|rfl|rfl<;>rfl
theorem Py.app(h:Py base T W B A k X Z v L p y){L':List Op.Pk}(h1:HoldsK y' base v' L')(h2:y.grownBy y' v.ownBlock)(h3:∀g,v'.ownBlock=some g->v.ownBlock=some g\/y.heap.size<=g):Pz base T W B k X Z v v' L' y' :=
 ⟨(h2.block B h.w.lt (fun e=>(h.w.ownB B e.symm).1 rfl)).trans h.w.row,h1,h.fr.trans (Fr.grown h2 h3),h.ek,zE h.w.bs h2.size,h.w.nT⟩
theorem Pz.cx(h:Pz base T W B k X Z v v' L y):y.cell? (B,k)=some v:=by rw[<- h.ek];exact bI h.row
theorem Pz.fx(h:Pz base T W B k X Z v v' L y):y.frozen? (B,k)=false:=aX h.row k
theorem Pz.fin(h:Pz base T W B k X Z v v' L y)(le:L.length<=40):Wr base T (y.setCell (B,X.length) v') B X Z v' L/\Fr B v v' W (y.setCell (B,X.length) v'):=by
 refine⟨⟨cH [v] [v'] X Z y h.row rfl,h.hk.keep fun g cur hg _ h2=>heap_setCell_other _ _ _ _ (fun(e:g=B)=>?_),le,zE h.bs (((zC 0 y).setCell (p:=(B,X.length)) (Nat.zero_le _) _).size),h.nT⟩,h.fr.trans (Fr.cells v' v' y (fun _ hg=>Or.inl hg) X.length [v'])⟩;rw[e,h.row]at h2;injection h2 with h2;injection h2 with _ h2;exact h.nT h2
end
theorem xN(h:Wr base T W B X Z v L)(p:Op.Pk):Calls prog 81 #[(B,X.length),.agg #[p.code,p.id,p.data]] W fun e W'=>e=.returned (.tuple #[])/\∃v',Wr base T W' B X Z v' (if L.length<40 then L++[p]else L)/\Fr B v v' W W':=by
 obtain⟨ad,cp,hv⟩:=h.hk.form;subst hv;have hb1:Below W W (W.alloc (.cells #[p.code,p.id,p.data] 85)):=(zC _ _).alloc (zD _) _;have hP:=zF W (.cells #[p.code,p.id,p.data] 85);have h1:=h.below hb1;have hc:=bI h1.row;have HW:=aa (zA h1 (zA hb1 hP));have hl:L.length<=40:=h.le;clear h h1 hb1 hP;generalize hk:X.length=k at hc|-;generalize hn:L.length=n at*;by_cases h40:n<40
 .rw [if_pos h40];go_enter func81,ntmps81
  go_upto_region 2 with fail
  have hL9:(L++[p]).length<=40:=by rw[List.length_append,hn];exact h40
  have hl9:L.length<=1000000:=by omega
  obtain⟨A,eA⟩ := ex W.heap.size;have HY:Hid (Py base T W B A k X Z (ad,n,cp) L p (W.alloc (.cells #[p.code,p.id,p.data] 85)).drew):=aa (by
   obtain⟨h1,h2,h3⟩:=uh HW;rw[eA]at h3;exact⟨h1.below (zC _ _).drew,(Fr.of_below h2).trans (Fr.of_below (zC _ _).drew),h3,hk⟩)
  rw[eA];refine wp_region_held_drew (S:=fun _=>True) (by kernel_rfl) trivial (fun hHeld=>?_);clear HW hc;generalize (W.alloc (.cells #[p.code,p.id,p.data] 85)).drew=yy at HY|-;refine tq 0 1 2 3 ?_;refine r4 4 5 (fun K hK=>?_) (fun K hK=>?_)
  .have cx:=HY.out.cx;go_simp;refine ro hK trivial fun _=>?_
   clear hK K;clear cx;refine r3 5 fun K hK=>?_
   obtain⟨x0,x1,x2⟩:=HY.out.px;go_simp;refine ro hK trivial fun _=>?_
   clear hK K;clear x0 x1 x2;refine r3 6 fun K hK=>?_
   have H6:=aa (HY.out.new p);go_simp;refine ro hK trivial fun _=>?_
   clear hK K;generalize yy.heap.size=N6 at H6|-;generalize yy.alloc (.cells #[p.code,p.id,p.data] 85)=y6 at H6|-;clear HY;have H6a:=aa H6.out.1;refine r3 7 fun K hK=>?_
   refine eH _ _ rfl rfl rfl H6.out.1.w.hk H6.out.2 hl9 (by simp) H6.out.1.w.bs ?_;intro v7 y7 g1 g2 g3;obtain⟨a7,c7,e7⟩:=g1.form;obtain⟨n7,e9⟩ := ex ((L++[p]).length);rw[e9]at e7;clear e9;subst e7;have H7:=aa (H6.out.1.app g1 g2 g3);clear g1 g2 g3 H6;refine ro hK trivial fun _=>?_
   clear hK K;refine tt 8 9 ?_;refine r3 10 fun K hK=>?_
   have cx:=H7.out.cx;have fx:=H7.out.fx;go_simp;refine ro hK trivial fun _=>?_
   clear hK K;refine dn ?_ _;go_wp2
   refine zI ?_;rw[<- hk];exact⟨rfl,_,H7.out.fin hL9⟩
  .obtain ⟨x0,x1,x2⟩:=HY.out.px;go_simp;refine ro hK trivial fun _=>?_
   clear hK K;clear x0 x1 x2;refine r4 4 6 (fun K hK=>?_) (fun K hK=>?_)
   .have cx:=HY.out.cx;go_simp;refine ro hK trivial fun _=>?_
    clear hK K;clear cx;refine r3 6 fun K hK=>?_
    have H6:=aa (HY.out.new p);go_simp;refine ro hK trivial fun _=>?_
    clear hK K;generalize yy.heap.size=N6 at H6|-;generalize yy.alloc (.cells #[p.code,p.id,p.data] 85)=y6 at H6|-;clear HY;have H6a:=aa H6.out.1;refine r3 7 fun K hK=>?_
    refine eH _ _ rfl rfl rfl H6.out.1.w.hk H6.out.2 hl9 (by simp) H6.out.1.w.bs ?_;intro v7 y7 g1 g2 g3;obtain⟨a7,c7,e7⟩:=g1.form;obtain⟨n7,e9⟩ := ex ((L++[p]).length);rw[e9]at e7;clear e9;subst e7;have H7:=aa (H6.out.1.app g1 g2 g3);clear g1 g2 g3 H6;refine ro hK trivial fun _=>?_
    clear hK K;refine tt 8 9 ?_;refine r3 10 fun K hK=>?_
    have cx:=H7.out.cx;have fx:=H7.out.fx;go_simp;refine ro hK trivial fun _=>?_
    clear hK K;refine dn ?_ _;go_wp2
    refine zI ?_;rw[<- hk];exact⟨rfl,_,H7.out.fin hL9⟩
   .have H6:=aa (HY.out.new p);go_simp;refine ro hK trivial fun _=>?_
    clear hK K;generalize yy.heap.size=N6 at H6|-;generalize yy.alloc (.cells #[p.code,p.id,p.data] 85)=y6 at H6|-;clear HY;have H6a:=aa H6.out.1;refine r3 4 fun K hK=>?_
    have cx:=H6a.out.cx;go_simp;refine ro hK trivial fun _=>?_
    clear hK K;clear cx;refine r3 7 fun K hK=>?_
    refine eH _ _ rfl rfl rfl H6.out.1.w.hk H6.out.2 hl9 (by simp) H6.out.1.w.bs ?_;intro v7 y7 g1 g2 g3;obtain⟨a7,c7,e7⟩:=g1.form;obtain⟨n7,e9⟩ := ex ((L++[p]).length);rw[e9]at e7;clear e9;subst e7;have H7:=aa (H6.out.1.app g1 g2 g3);clear g1 g2 g3 H6;refine ro hK trivial fun _=>?_
    clear hK K;refine tt 8 9 ?_;refine r3 10 fun K hK=>?_
    have cx:=H7.out.cx;have fx:=H7.out.fx;go_simp;refine ro hK trivial fun _=>?_
    clear hK K;refine dn ?_ _;go_wp2
    refine zI ?_;rw[<- hk];exact⟨rfl,_,H7.out.fin hL9⟩
 .rw [if_neg h40];go_enter func81,ntmps81
  go_wp2
  refine zI ?_;exact⟨rfl,_,HW.out.1,Fr.of_below HW.out.2.1⟩
theorem neL:G8:=by
 refine⟨fun m a p c d W=>?_,fun x y xs ys W=>run_eqGuard_agg W .neq 30 x y xs ys (by kernel_rfl)⟩;rw[run_neq_struct,run_equalIn_agg W 9999 30 _ _ (by kernel_rfl) (by kernel_rfl)];go_simp;try rfl
end Go.Proofs.YtjdgiimfpkideaaGreatDoor
