/- LaidMh WkF WkS OptAp2 SpecRep -/
import Derived.Test.YtjdgiimfpkideaaGreatDoorS16
import Derived.Test.YtjdgiimfpkideaaGreatDoorS19
set_option maxHeartbeats 1000000
set_option maxRecDepth 100000
namespace Go.Proofs.YtjdgiimfpkideaaGreatDoor
open Go.Proofs.Tryz
open Go.ChangeShapes Go.WideShapes Go.ChangeAt Go.RowKit
def iS:List (String × DataW Unit):=Rows.fnExactMeetRunRow.laid
def fU : List (String × DataW Unit) := [("unicode.White_Space", Rows.laid_unicode_White_Space), ("strings.asciiSpace", Rows.laid_strings_asciiSpace), ("loop.example/g00351/impl.eventNames", Rows.laid_loop_example_g00351_impl_eventNames), ("loop.example/g00351/impl.nextStates", Rows.laid_loop_example_g00351_impl_nextStates)]
theorem pv {W:World} (hL:laidMetH prog iS W):EvT W∧NxT W∧SpT W∧Et W:=by
 have h':laidMet prog fU W∧handlesMet prog ke W:=hL;obtain ⟨hd,hh⟩:=h';refine ⟨tR (Lib.laidMet.reads hd (.tail _ (.tail _ (.head _)))),tY (Lib.laidMet.reads hd (.tail _ (.tail _ (.tail _ (.head _))))),t_ (Lib.laidMet.reads hd (.tail _ (.head _))),vP (W:=W) ?_⟩;have h2:laidMet prog [] W∧handlesMet prog ke W:=⟨⟨[],rfl,List.nodup_nil,fun _ _ h=>by cases h⟩,hh⟩;exact h2
noncomputable def gt (os:Os):World:=(np os).layVars prog fU
theorem mA (os:Os):(gt os).os=os:=World.layVars_os _ _ _
theorem kf (os:Os):laidMet prog fU (gt os):=by
 have e1:(fU.filter fun x=>(fU.map (·.1)).contains x.1)=fU:=List.filter_eq_self.2 fun x hx=>List.contains_iff_mem.2 (List.mem_map.2 ⟨x,hx,rfl⟩)
 have e2:(fU.filter fun x=>!(fU.map (·.1)).contains x.1)=[]:=List.filter_eq_nil_iff.2 fun x hx=>by rw [List.contains_iff_mem.2 (List.mem_map.2 ⟨x,hx,rfl⟩)];simp
 exact laidMet_layVars (w0:=np os) (fU.map (·.1)) [] (by rw [e1];rfl) (by rw [e1];kernel_rfl) (by rw [e1];kernel_rfl) (by rw [e2];exact LaidIn.none)
theorem kV (os:Os) (args:Array Value):laidMetH prog iS ((gt os).forCall (fun _ _=>0) ⟨#[],args,[]⟩).memory:=by
 refine laidMetH_of_parts ?_ (by kernel_rfl);have h:laidMet prog fU ((gt os).forCall (fun _ _=>0) ⟨#[],args,[]⟩).memory:=(kf os).of_heap (by simp [World.memory,World.forCall,Input.heap]);exact h
end Go.Proofs.YtjdgiimfpkideaaGreatDoor
namespace Go.Proofs.YtjdgiimfpkideaaGreatDoor
open Go.RowKit Go.Proofs.Tryz
def nM (T:TypeId) (f:FuncId) (c:Cx) (a:ByteArray):Prop:=∀ (w0 w1:World) (B:Nat) (s:St) (v1 v2 vs vt:Value) (q:World) (n:Nat),Lay T w0 w1 B c s v1 v2 vs vt q→Fit n c s→n≤1000 →
 Calls prog f #[.pointer (some ⟨B,0,none⟩),.string a] q fun r q'=>r=.returned (.tuple #[])∧∃ v1 v2 vs vt,Lay T w0 w1 B c (bv c a s) v1 v2 vs vt q'
theorem aw:(prog.info? 74).map (·.size)=some 33:=by kernel_rfl
theorem ay {W:World} {E:Nat} {cs:Array Value} (h:W.heap[E]?=some (.cells cs 74)) (hs:cs.size=33:=by rfl):(loadVar 74 ⟨E,0,none⟩).run prog W=.ok (.agg cs) W :=
 run_loadVar_row (P:=prog) _ _ 74 74 cs (0,0) _ h underlying74 rfl (by rw [hs];exact aw)
abbrev bk:Array Value:=#[.int .i64 0,.int .i64 0,.int .i64 0,.bool false,.bool false,.bool false,.int .i64 0,.int .i64 0,.int .i64 0,.bool false,.bool false,.bool false,.int .i64 0,.int .i64 0,.int .i64 0,.int .i64 0,.int .i64 0,.slice none 0 0,.slice none 0 0,.bool false,.int .i64 0,.int .i64 0,.bool false,.bool false,.bool false,.int .i64 0,.int .i64 0,.bool false,.bool false,.bool false,.slice none 0 0,.slice none 0 0,.int .i64 0]
theorem aV (w:World) (g k:Nat) (cs:Array Value) (h:k≠g):(w.setRow g cs).heap[k]?=w.heap[k]?:=by
 unfold World.setRow;simp [Array.getElem?_modify,Ne.symm h]
theorem az {w:World} {base:Nat} {e T:TypeId} {size:Nat} {v:Value} {n:Nat} {xs:List Value} (h:w.ownsRow base e size v n xs) {X:Nat} {old cs:Array Value} (hX:w.heap[X]?=some (.cells old T)) (hT:T≠e):(w.setRow X cs).ownsRow base e size v n xs :=
 ak h fun g hg=>aV w X g cs fun e=>aq h hX hT (e ▸ hg)
theorem bE {w0 q:World} (hb:Below w0.heap.size w0 q) (cd:Int):EvA w0 (bA cd) (.returned (.agg (aC ag (.slice none 0 0) (.slice none 0 0) (.slice none 0 0) (.slice none 0 0) cd))) q :=
 ⟨_,_,_,_,rfl,World.ownsRow_nil _ _ _ _,World.ownsRow_nil _ _ _ _,World.ownsRow_nil _ _ _ _,World.ownsRow_nil _ _ _ _,Ap.none _ _ _,hb⟩
theorem dU {T:TypeId} {w0 w1:World} {B:Nat} {c:Cx} {s:St} {v1 v2 vs vt:Value} {q:World} (h:Lay T w0 w1 B c s v1 v2 vs vt q):q.rangeAt B 0 (aA s.e v1 v2).toList:=by
 intro j u hu;have hj:=(List.getElem?_eq_some_iff.1 hu).1;rw [Nat.zero_add];refine h.cell (i:=j) ?_;show ((aA s.e v1 v2).toList ++ [.int .i64 c.now,.int .i64 c.cc,.int .i64 c.ci,.string c.cd,c.vh,.int .i64 c.ac,c.va,vs,vt])[j]?=some u
 rw [List.getElem?_append_left hj];exact hu
theorem aG (e:En) (a1 a2 a3 a4:Option Addr) (n1 n2 n3 n4 m1 m2 m3 m4:Nat) (cd:Int):(aC e (.slice a1 n1 m1) (.slice a2 n2 m2) (.slice a3 n3 m3) (.slice a4 n4 m4) cd).all (·.oneCell')=true:=by kernel_rfl
theorem jq (A:List ByteArray) (i:Nat) (hi:i<A.length):(A.take (i+1)).any dH=((A.take i).any dH || dH A[i]):=by
 rw [List.take_succ_eq_append_getElem hi,List.any_append,List.any_cons,List.any_nil,Bool.or_false]
theorem hU (c:Cx) (s:St) (A:List ByteArray) (i:Nat) (hi:i<A.length):(A.take (i+1)).foldl (fun s a=>bv c a s) s=bv c A[i] ((A.take i).foldl (fun s a=>bv c a s) s):=by
 rw [List.take_succ_eq_append_getElem hi,List.foldl_append];rfl
theorem ku {w:World} {base:Nat} {v:Value} {L:List ByteArray} (h:w.ownsRow base 9 1 v L.length (a_ L)) (i:Nat) (hi:i<L.length):∃ g cp,v=.slice (some ⟨g,0,none⟩) L.length cp∧g<w.heap.size∧w.cell? ⟨g,i,none⟩=some (.string L[i]):=by
 rcases h.2 with ⟨_,h0⟩ | ⟨g,cap,cur,hv,_,hg,_,_,_,ht⟩
 ·omega
 ·refine ⟨g,cap,hv,(ge.1 hg).1,?_⟩;rw [cr hg,← Array.getElem?_toList];have e:=iK L i L[i] (List.getElem?_eq_getElem hi);rw [← ht,List.getElem?_take,if_pos (by omega)] at e;exact e
end Go.Proofs.YtjdgiimfpkideaaGreatDoor
namespace Go.Proofs.YtjdgiimfpkideaaGreatDoor
open Go.RowKit Go.Proofs.Tryz
theorem uT (B:Nat) (cs:Array Value) (id:Int) (w:World) (hB:w.heap[B]?=some (.cells cs 99)) (hid:cs[15]?=some (.int .i64 id)) (h1:0≤id) (h2:id≤255) :
    Calls prog 101 #[.pointer (some ⟨B,0,none⟩)] w fun e w'=>e=.returned (.int .i64 ((id+1) % 256))∧w'=w.setCell ⟨B,15,none⟩ (.int .i64 ((id+1) % 256)):=by
  have c0:w.cell? ⟨B,15,none⟩=some (.int .i64 id):=by rw [cr hB];exact hid
  have f0:w.frozen? ⟨B,15,none⟩=false:=aX hB 15;have hm:(id+1).tmod 256=(id+1) % 256:=Int.tmod_eq_emod_of_nonneg (by omega);have c1:(w.setCell ⟨B,15,none⟩ (.int .i64 ((id+1) % 256))).cell? ⟨B,15,none⟩=some (.int .i64 ((id+1) % 256)):=by
    rw [cr (zH _ _ 15 _ _ _ hB),Array.getElem?_setIfInBounds,if_pos rfl,if_pos (ge.1 hid).1]
  clear hB hid;go_enter func101,ntmps101
  go_wp2
  go_ret
  exact ⟨rfl,rfl⟩
theorem qg (y:Int) (w:World):Calls prog 127 #[.int .i64 0,.int .i64 y] w fun e w'=>e=.returned (.int .i64 (max 0 y))∧w'=w:=by
  by_cases h:0≤y
  · rw [Int.max_eq_right h]
    by_cases h0:y=0
    · subst h0
      go_enter func127,ntmps127
      go_wp2
      go_ret
      exact ⟨rfl,rfl⟩
    · have h1:0<y:=by omega
      go_enter func127,ntmps127
      go_wp2
      go_ret
      exact ⟨rfl,rfl⟩
  · rw [Int.max_eq_left (by omega)]
    have h1:y<0:=by omega
    have h2:¬ (0<y):=by omega
    go_enter func127,ntmps127
    go_wp2
    go_ret
    exact ⟨rfl,rfl⟩
theorem wT (B:Nat) (cs:Array Value) (tr du now:Int) (w:World) (hB:w.heap[B]?=some (.cells cs 99)) (h13:cs[13]?=some (.int .i64 tr)) (h14:cs[14]?=some (.int .i64 du)) (h30:cs[30]?=some (.int .i64 now)) (h1:0≤tr) (h2:tr≤5) (h3:0≤now) (h4:now≤1000000000) :
    Calls prog 102 #[.pointer (some ⟨B,0,none⟩)] w fun e w'=>e=.returned (.tuple #[])∧w'=(w.setCell ⟨B,13,none⟩ (.int .i64 (max 0 (tr - 1)))).setCell ⟨B,14,none⟩ (.int .i64 (now+3)):=by
  have c0:w.cell? ⟨B,13,none⟩=some (.int .i64 tr):=by rw [cr hB];exact h13
  have f0:w.frozen? ⟨B,13,none⟩=false:=aX hB 13;have hB1:=zH w B 13 _ _ (.int .i64 (max 0 (tr - 1))) hB;have c1:(w.setCell ⟨B,13,none⟩ (.int .i64 (max 0 (tr - 1)))).cell? ⟨B,30,none⟩=some (.int .i64 now):=by
    rw [cr hB1,Array.getElem?_setIfInBounds,if_neg (by decide)];exact h30
  have c2:(w.setCell ⟨B,13,none⟩ (.int .i64 (max 0 (tr - 1)))).cell? ⟨B,14,none⟩=some (.int .i64 du):=by
    rw [cr hB1,Array.getElem?_setIfInBounds,if_neg (by decide)];exact h14
  have f2:(w.setCell ⟨B,13,none⟩ (.int .i64 (max 0 (tr - 1)))).frozen? ⟨B,14,none⟩=false:=aX hB1 14;have C:=aa fun W=>qg (tr - 1) W
  clear hB hB1 h13 h14 h30;generalize max 0 (tr - 1)=t2 at *;go_enter func102,ntmps102
  go_wp2_with (first | (go_at_call 127;refine (uh C _).mono ?_;rintro e w1 ⟨rfl,hw1⟩;replace hw1:=hw1.symm;subst hw1))
  exact Great.bodyPost_end0 rfl rfl ⟨rfl,rfl⟩
theorem wU (B base:Nat) (cs:Array Value) (vs:Value) (S:List Op.Pk) (cd id:Int) (dt:ByteArray) (w:World) (hB:w.heap[B]?=some (.cells cs 99)) (h37:cs[37]?=some vs) (hS:S.length≤1000) (ho:w.ownsRow base 85 3 vs S.length (ae S)) (hne:vs.ownBlock≠some B) (hbase:base≤w.heap.size) :
    Calls prog 100 #[.pointer (some ⟨B,0,none⟩),.int .i64 cd,.int .i64 id,.string dt] w fun e w'=>e=.returned (.tuple #[])∧∃ v w1,w'=w1.setCell ⟨B,37,none⟩ v∧w1.ownsRow base 85 3 v (S.length+1) (ae (S ++ [⟨cd,id,dt⟩]))∧(w.alloc (.cells #[.int .i64 cd,.int .i64 id,.string dt] 85)).grownBy w1 vs.ownBlock:=by
  have c0:w.cell? ⟨B,37,none⟩=some vs:=by rw [cr hB];exact h37
  obtain ⟨ad,cp,rfl⟩:=af ho;have HB:=aa (zA hB (zA h37 hne));have HO:=aa ho;have hl:B<w.heap.size:=(ge.1 hB).1;obtain ⟨n,hn⟩:∃ n,S.length=n:=⟨_,rfl⟩;clear hB h37 hne ho;rw [hn] at c0 HO hS HB ⊢;go_enter func100,ntmps100
  go_wp2_with (first
    | (at_builtin;refine jL rfl _ _ rfl base (.slice ad n cp) S n hn rfl (uh HO) cd id dt rfl hS hbase ?_;rintro v6 w6 ho6 hg6;obtain ⟨a6,c6,rfl⟩:=af ho6
       have e6:=(hg6.block B (by simp;omega) (fun e=>(uh HB).2.2 e.symm)).trans ((zG _ _ _ hl).trans (uh HB).1);have k6:w6.cell? ⟨B,37,none⟩=some (.slice ad n cp):=by rw [cr e6];exact (uh HB).2.1
       have f6:w6.frozen? ⟨B,37,none⟩=false:=aX e6 37;clear e6))
  exact Great.bodyPost_end0 rfl rfl ⟨rfl,_,w6,rfl,ho6,hg6⟩
end Go.Proofs.YtjdgiimfpkideaaGreatDoor
namespace Go.Proofs.YtjdgiimfpkideaaGreatDoor
open Go.RowKit Go.Proofs.Tryz
theorem fY {wr:World} {ops:Array Oper} {rest:List Oper} {o:Oper} {a:Act} {Q:Exit→Act→World→Prop} (hgd:o.guard=none) (s x:Operand)
  (ho:o.op=.call { callee:=.builtin .append,args:=#[s,x],argTypes:=#[28,28] })
  (base:Nat) (v:Value) (F:List Op.Opt) (n:Nat) (hn:F.length=n) (hs:a.eval s=v) (hown:wr.ownsRow base 105 2 v n (aj F)) (kd:Int) (dt:ByteArray) (hx:a.eval x=.slice (some ⟨wr.heap.size,0,none⟩) 1 1) (hlen:n≤1000) (hbase:base≤wr.heap.size)
  (h:∀ v' w',w'.ownsRow base 105 2 v' (n+1) (aj (F ++ [⟨kd,dt⟩]))→(wr.alloc (.cells #[.int .i64 kd,.string dt] 105)).grownBy w' v.ownBlock→(v'.ownBlock=v.ownBlock∨v'.ownBlock=some (wr.heap.size+1))→wpList prog ops Q rest (a.put o.dst v') w'):wpList prog ops Q (o :: rest) a (wr.alloc (.cells #[.int .i64 kd,.string dt] 105)):=by
 obtain ⟨i0,hi0,hz0,hz1,hz2⟩:=kW;refine wpList_append_own_at _ hgd s x 28 ho base 105 i0 _ 2 24 underlying28 hi0 hz0 hz1 hz2 rfl (by decide) v n (aj F) hs (hown.alloc _) ⟨wr.heap.size,0,none⟩ 1 1 [.int .i64 kd,.string dt] hx rfl ?_ ?_ ?_ ?_ ?_ ?_
 ·intro i u hu;rw [Addr.add_lit,Nat.zero_add,World.cell?_alloc_at _ _ _ _ rfl,← hu];simp
 ·intro u hu;simp only [List.mem_cons,List.not_mem_nil,or_false] at hu;rcases hu with rfl | rfl<;>rfl
 ·unfold maxLen;omega
 ·omega
 ·simp;omega
 ·intro v' w2 hown2 hg2 _ hat;refine h v' w2 ?_ hg2 (by simpa using hat);rw [bV];exact hown2
theorem mT (F:List Op.Opt):∀ u ∈ aj F,u.oneCell'=true:=by
 intro u hu;simp only [aj,List.mem_flatMap,List.mem_cons,List.not_mem_nil,or_false] at hu;obtain ⟨f,_,rfl | rfl⟩:=hu<;>rfl
theorem fZ {W:World} {base:Nat} {v s:Value} {G F:List Op.Opt} (ty:TypeId) (hown:W.ownsRow base 105 2 v G.length (aj G)) (hs:HoldsO W s F) (hG:G.length≤1048576) (hF:F.length≤1048576) (hbase:base≤W.heap.size) :
  ∃ v' W',(Builtin.append_ #[28,28] ty #[v,s]).run prog W=.ok v' W'∧W'.ownsRow base 105 2 v' (G ++ F).length (aj (G ++ F))∧W.grownBy W' v.ownBlock:=by
 obtain ⟨i,hi,hz,hsz,hby⟩:=kW
 have key:∀ (a:Addr) (cp:Nat),s=.slice (some a) F.length cp→(∀ j u,(aj F)[j]?=some u→W.cell? (a.add j)=some u) →
   ∃ v' W',(Builtin.append_ #[28,28] ty #[v,s]).run prog W=.ok v' W'∧W'.ownsRow base 105 2 v' (G ++ F).length (aj (G ++ F))∧W.grownBy W' v.ownBlock:=by
  rintro a cp rfl hn
  obtain ⟨v',W',h1,h2,h3,_⟩:=run_append_own (P:=prog) W base 28 ty 105 i _ 2 24 underlying28 hi hz hsz hby rfl (by decide) v G.length (aj G) hown a F.length cp (aj F) (bU F) hn (mT F)
   (by unfold maxLen;omega) (by omega) hbase
  exact ⟨v',W',h1,by rw [List.length_append,bV];exact h2,h3⟩
 rcases hs with ⟨ad,cp,rfl,rfl⟩ | ⟨g,cp,cur,rfl,hg,hg2,hg3⟩
 ·cases ad with
  | some a=>exact key a cp rfl (fun j u h=>by cases h)
  | none =>
   refine ⟨v,W,?_,by rw [List.append_nil];exact hown,⟨rfl,rfl,rfl,zD _,fun _ _ _=>rfl⟩⟩;rcases hown.2 with ⟨rfl,_⟩ | ⟨g,cap,cur,rfl,_,_,hnc,_⟩
   ·simp [Builtin.append_,run_underlying underlying28,sizeOf,typeInfo,hi,Builtin.lenOf,Builtin.firstCells]
   ·simp [Builtin.append_,run_underlying underlying28,sizeOf,typeInfo,hi,Builtin.lenOf,Builtin.firstCells,hnc,storeCells]
 ·refine key ⟨g,0,none⟩ cp rfl (fun j u h=>?_);have hadd:(⟨g,0,none⟩:Addr).add j=⟨g,j,none⟩:=by unfold Addr.add;split<;>simp_all
  rw [hadd,cr hg,hg3 j (by have:=(List.getElem?_eq_some_iff.1 h).1;rw [bU] at this;exact this)];exact h
theorem fM {W:World} {ops:Array Oper} {rest:List Oper} {o:Oper} {a:Act} {Q:Exit→Act→World→Prop} (hgd:o.guard=none) (s x:Operand)
  (ho:o.op=.call { callee:=.builtin .append,args:=#[s,x],argTypes:=#[28,28] })
  (base:Nat) (v sv:Value) (G F:List Op.Opt) (hs:a.eval s=v) (hx:a.eval x=sv) (hown:W.ownsRow base 105 2 v G.length (aj G)) (hsv:HoldsO W sv F) (hG:G.length≤1048576) (hF:F.length≤1048576) (hbase:base≤W.heap.size)
  (h:∀ v' w',w'.ownsRow base 105 2 v' (G ++ F).length (aj (G ++ F))→W.grownBy w' v.ownBlock→wpList prog ops Q rest (a.put o.dst v') w'):wpList prog ops Q (o :: rest) a W:=by
 refine wpList_plain hgd fun K hK=>?_
 obtain ⟨v',w',hr,h2,h3⟩:=fZ (W:=W) o.type hown hsv hG hF hbase;unfold Oper.wp execOp;simp only [ho,resolve,invoke,builtin,Sem.run_bind,Sem.run_pure,Result.andThen_ok,List.map_toArray,List.map_cons,List.map_nil,hs,hx,hr];exact hK _ _ (h v' w' h2 h3)
theorem ew {w w':World} {base:Nat} {e:TypeId} {size:Nat} {v:Value} {n:Nat} {xs:List Value} (h:w.ownsRow base e size v n xs) (hb:∀ g,v.ownBlock=some g→w'.heap[g]?=w.heap[g]?):w'.ownsRow base e size v n xs :=
 ⟨h.1,h.2.imp id fun ⟨g,cap,cur,h1,h2,h3,h4⟩=>⟨g,cap,cur,h1,h2,(hb g (by rw [h1];rfl)).trans h3,h4⟩⟩
end Go.Proofs.YtjdgiimfpkideaaGreatDoor
namespace Go.Proofs.YtjdgiimfpkideaaGreatDoor
open Go.RowKit Go.Proofs.Tryz
structure RpS (w:World) (N:Nat) (C:Array Value) (vn vr:Value) (Fn Fr:List Op.Opt) (q:World):Prop where
 c:q.heap[w.heap.size]?=some (.cells C 24)
 r:q.heap[w.heap.size+1]?=some (.cells #[.int .i64 0,.slice none 0 0] 97)
 n:q.heap[N]?=some (.cells #[.int .i64 3,vn] 97)
 j:q.heap[N+1]?=some (.cells #[.int .i64 4,vr] 97)
 b:Below w.heap.size w q
 on:q.ownsRow (N+1+1) 105 2 vn Fn.length (aj Fn)
 oj:q.ownsRow (N+1+1) 105 2 vr Fr.length (aj Fr)
 dj:∀ g,vn.ownBlock=some g→vr.ownBlock≠some g
 lt:w.heap.size+1<N
theorem RpS.size {w:World} {N:Nat} {C:Array Value} {vn vr:Value} {Fn Fr:List Op.Opt} {q:World} (h:RpS w N C vn vr Fn Fr q):N+1<q.heap.size:=(ge.1 h.j).1
theorem RpS.step {w:World} {N:Nat} {C:Array Value} {vn vr:Value} {Fn Fr:List Op.Opt} {q q':World} (h:RpS w N C vn vr Fn Fr q) (hb:Below q.heap.size q q'):RpS w N C vn vr Fn Fr q':=by
 have hs:=h.size;have hl:=h.lt;exact ⟨(hb.block _ (by omega)).trans h.c,(hb.block _ (by omega)).trans h.r,(hb.block _ (by omega)).trans h.n,(hb.block _ hs).trans h.j,h.b.trans (hb.mono h.b.size),ew h.on fun g hg=>hb.block g (World.ownsRow.lt h.on g hg).2,ew h.oj fun g hg=>hb.block g (World.ownsRow.lt h.oj g hg).2,h.dj,hl⟩
theorem RpS.drew {w:World} {N:Nat} {C:Array Value} {vn vr:Value} {Fn Fr:List Op.Opt} {q:World} (h:RpS w N C vn vr Fn Fr q):RpS w N C vn vr Fn Fr q.drew :=
 h.step ⟨rfl,rfl,rfl,zD _,fun _ _=>rfl⟩
theorem RpS.drewN {w:World} {N:Nat} {C:Array Value} {vn vr:Value} {Fn Fr:List Op.Opt} {q:World} (h:RpS w N C vn vr Fn Fr q) (k:Nat):RpS w N C vn vr Fn Fr (q.drewN k) :=
 h.step ⟨rfl,rfl,rfl,zD _,fun _ _=>rfl⟩
theorem RpS.putX {w:World} {N:Nat} {C:Array Value} {vn vr:Value} {Fn Fr:List Op.Opt} {q:World} (h:RpS w N C vn vr Fn Fr q) (X i:Nat) (x:Value) (hX:N+1<X) (h1:∀ g,vn.ownBlock=some g→g≠X) (h2:∀ g,vr.ownBlock=some g→g≠X):RpS w N C vn vr Fn Fr (q.setCell ⟨X,i,none⟩ x):=by
 have hl:=h.lt;refine ⟨?_,?_,?_,?_,h.b.setCell (p:=⟨X,i,none⟩) (by simp;omega) _,ew h.on fun g hg=>Below.heap_setCell _ _ _ _ (h1 g hg),ew h.oj fun g hg=>Below.heap_setCell _ _ _ _ (h2 g hg),h.dj,hl⟩
 ·rw [Below.heap_setCell _ _ _ _ (by simp;omega)];exact h.c
 ·rw [Below.heap_setCell _ _ _ _ (by simp;omega)];exact h.r
 ·rw [Below.heap_setCell _ _ _ _ (by simp;omega)];exact h.n
 ·rw [Below.heap_setCell _ _ _ _ (by simp;omega)];exact h.j
theorem RpS.appN {w:World} {N:Nat} {C:Array Value} {vn vr v':Value} {Fn Fr:List Op.Opt} {q w6:World} {kd:Int} {dt:ByteArray} (h:RpS w N C vn vr Fn Fr q) (ho:w6.ownsRow (N+1+1) 105 2 v' (Fn.length+1) (aj (Fn ++ [⟨kd,dt⟩])))
  (hg:(q.alloc (.cells #[.int .i64 kd,.string dt] 105)).grownBy w6 vn.ownBlock) (hat:v'.ownBlock=vn.ownBlock∨v'.ownBlock=some (q.heap.size+1)):RpS w N C v' vr (Fn ++ [⟨kd,dt⟩]) Fr (w6.setCell ⟨N,1,none⟩ v'):=by
 have hs:=h.size;have hl:=h.lt;have blk:∀ g,g<q.heap.size→vn.ownBlock≠some g→w6.heap[g]?=q.heap[g]?:=fun g hgl hne=>(hg.block g (by simp;omega) (fun e=>hne e.symm)).trans (zG _ _ _ hgl)
 have nb:∀ g,g≤N+1→vn.ownBlock≠some g:=fun g hgl e=>by have:=(World.ownsRow.lt h.on g e).1;omega
 have hN:=(blk N (by omega) (nb N (by omega))).trans h.n;have hB:Below w.heap.size w w6:=h.b.trans ⟨hg.os.trans rfl,hg.tape.trans rfl,hg.output.trans rfl,zE (by simp) hg.size,fun g hgl=>blk g (by omega) (nb g (by omega))⟩;refine ⟨?_,?_,zH _ _ 1 _ _ _ hN,?_,hB.setCell (p:=⟨N,1,none⟩) (by simp;omega) _,?_,?_,?_,hl⟩
 ·rw [Below.heap_setCell _ _ _ _ (by simp;omega)];exact (blk _ (by omega) (nb _ (by omega))).trans h.c
 ·rw [Below.heap_setCell _ _ _ _ (by simp;omega)];exact (blk _ (by omega) (nb _ (by omega))).trans h.r
 ·rw [Below.heap_setCell _ _ _ _ (by simp)];exact (blk _ hs (nb _ (by omega))).trans h.j
 ·have:=ew (w':=w6.setCell ⟨N,1,none⟩ v') ho fun g hgo=>Below.heap_setCell _ _ _ _ (by have:=(World.ownsRow.lt ho g hgo).1;simp;omega)
  rw [List.length_append];exact this
 ·refine ew (w:=q) h.oj fun g hgo=>?_
  have h2:=World.ownsRow.lt h.oj g hgo;rw [Below.heap_setCell _ _ _ _ (by simp;omega)];exact blk g h2.2 fun e=>h.dj g e hgo
 ·intro g e1 e2;have h2:=World.ownsRow.lt h.oj g e2;rcases hat with e | e
  ·exact h.dj g (e ▸ e1) e2
  ·rw [e] at e1;cases e1;omega
theorem RpS.appR {w:World} {N:Nat} {C:Array Value} {vn vr v':Value} {Fn Fr:List Op.Opt} {q w6:World} {kd:Int} {dt:ByteArray} (h:RpS w N C vn vr Fn Fr q) (ho:w6.ownsRow (N+1+1) 105 2 v' (Fr.length+1) (aj (Fr ++ [⟨kd,dt⟩])))
  (hg:(q.alloc (.cells #[.int .i64 kd,.string dt] 105)).grownBy w6 vr.ownBlock) (hat:v'.ownBlock=vr.ownBlock∨v'.ownBlock=some (q.heap.size+1)):RpS w N C vn v' Fn (Fr ++ [⟨kd,dt⟩]) (w6.setCell ⟨N+1,1,none⟩ v'):=by
 have hs:=h.size;have hl:=h.lt;have blk:∀ g,g<q.heap.size→vr.ownBlock≠some g→w6.heap[g]?=q.heap[g]?:=fun g hgl hne=>(hg.block g (by simp;omega) (fun e=>hne e.symm)).trans (zG _ _ _ hgl)
 have nb:∀ g,g≤N+1→vr.ownBlock≠some g:=fun g hgl e=>by have:=(World.ownsRow.lt h.oj g e).1;omega
 have hN:=(blk (N+1) (by omega) (nb (N+1) (by omega))).trans h.j;have hB:Below w.heap.size w w6:=h.b.trans ⟨hg.os.trans rfl,hg.tape.trans rfl,hg.output.trans rfl,zE (by simp) hg.size,fun g hgl=>blk g (by omega) (nb g (by omega))⟩;refine ⟨?_,?_,?_,zH _ _ 1 _ _ _ hN,hB.setCell (p:=⟨N+1,1,none⟩) (by simp;omega) _,?_,?_,?_,hl⟩
 ·rw [Below.heap_setCell _ _ _ _ (by simp;omega)];exact (blk _ (by omega) (nb _ (by omega))).trans h.c
 ·rw [Below.heap_setCell _ _ _ _ (by simp;omega)];exact (blk _ (by omega) (nb _ (by omega))).trans h.r
 ·rw [Below.heap_setCell _ _ _ _ (by simp)];exact (blk _ (by omega) (nb _ (by omega))).trans h.n
 ·refine ew (w:=q) h.on fun g hgo=>?_
  have h2:=World.ownsRow.lt h.on g hgo;rw [Below.heap_setCell _ _ _ _ (by simp;omega)];exact blk g h2.2 fun e=>h.dj g hgo e
 ·have:=ew (w':=w6.setCell ⟨N+1,1,none⟩ v') ho fun g hgo=>Below.heap_setCell _ _ _ _ (by have:=(World.ownsRow.lt ho g hgo).1;simp;omega)
  rw [List.length_append];exact this
 ·intro g e1 e2;have h2:=World.ownsRow.lt h.on g e1;rcases hat with e | e
  ·exact h.dj g e1 (e ▸ e2)
  ·rw [e] at e2;cases e2;omega
structure RpX (w:World) (N:Nat) (C:Array Value) (vn vr:Value) (Fn Fr:List Op.Opt) (kd:Int) (t:ByteArray) (X:Nat) (q:World):Prop where
 s:RpS w N C vn vr Fn Fr q
 x:q.heap[X]?=some (.cells #[.int .i64 kd,.string t] 105)
 l:N+1<X
 n1:∀ g,vn.ownBlock=some g→g≠X
 n2:∀ g,vr.ownBlock=some g→g≠X
theorem RpX.step {w:World} {N:Nat} {C:Array Value} {vn vr:Value} {Fn Fr:List Op.Opt} {kd:Int} {t:ByteArray} {X:Nat} {q q':World} (h:RpX w N C vn vr Fn Fr kd t X q) (hb:Below q.heap.size q q'):RpX w N C vn vr Fn Fr kd t X q' :=
 ⟨h.s.step hb,(hb.block _ (ge.1 h.x).1).trans h.x,h.l,h.n1,h.n2⟩
theorem RpX.drewN {w:World} {N:Nat} {C:Array Value} {vn vr:Value} {Fn Fr:List Op.Opt} {kd:Int} {t:ByteArray} {X:Nat} {q:World} (h:RpX w N C vn vr Fn Fr kd t X q) (k:Nat):RpX w N C vn vr Fn Fr kd t X (q.drewN k) :=
 h.step ⟨rfl,rfl,rfl,zD _,fun _ _=>rfl⟩
theorem RpX.new1 {w:World} {N:Nat} {C:Array Value} {vn vr:Value} {Fn Fr:List Op.Opt} {q q':World} (h:RpS w N C vn vr Fn Fr q) (hb:Below q.heap.size q q') (kd:Int) (t:ByteArray) :
  RpX w N C vn vr Fn Fr kd t q'.heap.size (q'.alloc (.cells #[.int .i64 kd,.string t] 105)):=by
 have hs:=h.size;have h2:=hb.size;refine ⟨(h.step hb).step ((zC _ _).alloc (zD _) _),zF q' _,by omega,fun g hg=>?_,fun g hg=>?_⟩
 ·have:=(World.ownsRow.lt h.on g hg).2;omega
 ·have:=(World.ownsRow.lt h.oj g hg).2;omega
theorem RpX.put {w:World} {N:Nat} {C:Array Value} {vn vr:Value} {Fn Fr:List Op.Opt} {kd:Int} {t:ByteArray} {X:Nat} {q:World} (h:RpX w N C vn vr Fn Fr kd t X q) (kd':Int) (t':ByteArray) :
  RpX w N C vn vr Fn Fr kd' t' X ((q.setCell ⟨X,0,none⟩ (.int .i64 kd')).setCell ⟨X,1,none⟩ (.string t')) :=
 ⟨(h.s.putX X 0 _ h.l h.n1 h.n2).putX X 1 _ h.l h.n1 h.n2,aM h.x _ _,h.l,h.n1,h.n2⟩
theorem RpX.new2 {w:World} {N:Nat} {C:Array Value} {vn vr:Value} {Fn Fr:List Op.Opt} {q q':World} (h:RpS w N C vn vr Fn Fr q) (k0:Int) (t0:ByteArray) (hb:Below (q.alloc (.cells #[.int .i64 k0,.string t0] 105)).heap.size (q.alloc (.cells #[.int .i64 k0,.string t0] 105)) q') (kd:Int) (t:ByteArray) :
  RpX w N C vn vr Fn Fr kd t q.heap.size ((q'.setCell ⟨q.heap.size,0,none⟩ (.int .i64 kd)).setCell ⟨q.heap.size,1,none⟩ (.string t)) :=
 ((RpX.new1 h (zC _ _) k0 t0).step hb).put kd t
end Go.Proofs.YtjdgiimfpkideaaGreatDoor
