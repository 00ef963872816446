/- OptEq OptSp Num Asks OptApp PkRow MarkT PkMarks Reads -/
import Derived.Test.YtjdgiimfpkideaaGreatDoorS00
import Derived.Deep.OwnRows
set_option maxHeartbeats 2000000
set_option maxRecDepth 100000
namespace Go.Proofs.YtjdgiimfpkideaaGreatDoor
open Go.RowKit Go.Proofs.Tryz
variable {wr w w':World} {ops:Array Oper} {rest:List Oper} {o:Oper} {a:Act} {Q:Exit->Act->World->Prop} {base n N R:Nat} {v:Value} {F:List Op.Pk}
theorem mC(ad:Option Addr)(cp:Nat)(w:World):Calls prog 125 #[(ad,0,cp)] w fun e w'=>e=.returned (.bool true)/\Below w w w':=by
 go_enter func125,ntmps125
 go_wp2_with fail
 go_loopw [3] (fun y wr=>y=.int .i64 0/\wr=w) (fun _ _=>0)
 case atStart=>exact⟨rfl,rfl⟩
 case round =>
  obtain⟨rfl,rfl⟩:=hrel;go_wp2
  go_ret
  exact⟨rfl,zC _ _⟩
theorem mD(g cp:Nat)(F:List Op.Opt)(cur:Array Value)(w:World)(hm:F.length<=maxLen)(h1:w.heap[g]?=some (.cells cur 105))(a1:∀j,j<F.length*2->cur[j]?=(aj F)[j]?):Calls prog 125 #[.slice (some (g,0)) F.length cp] w fun e w'=>e=.returned (.bool (Op.right F))/\Below w w w':=by
 unfold maxLen at hm;have hl1:g<w.heap.size:=(ge.1 h1).1;obtain⟨n,hn⟩ := ex F.length;by_cases h20:20<n
 .have d0:(20:Int)<(n:Int):=by omega
  rw[iV (by omega),hn];go_enter func125,ntmps125
  go_wp2
  go_ret
  exact⟨rfl,zC _ _⟩
 .have d0:¬((20:Int)<(n:Int)):=by omega
  have HA:Hid (∀i (hi:i<n),cur[i*2]?=some (.int .i64 (F[i]'(by omega)).kind)/\cur[i*2+1]?=some (.string (F[i]'(by omega)).data)):=by
   refine aa fun i hi=>?_
   have q:=bW F i (F[i]'(by omega)) (List.getElem?_eq_getElem (by omega));exact⟨(a1 _ (by omega)).trans q.1,(a1 _ (by omega)).trans q.2⟩
  have HT:Hid ((∀k (hk:k<n),Op.ok (F[k]'(by omega))=true)->Op.right F=true):=aa fun h=>iU (by omega) fun k hk=>h k (by omega)
  have HF:Hid (∀k (hk:k<n),Op.ok (F[k]'(by omega))=false->Op.right F=false):=aa fun k hk h=>il (by omega) h
  rw[hn];clear a1 hm;generalize Op.right F=RT at*;go_enter func125,ntmps125
  go_wp2_with fail
  go_loopw [3] (fun y wr=>∃(i:Nat),i<=n/\y=.int .i64 i/\(∀k (hk:k<i) (hkn:k<n),Op.ok (F[k]'(by omega))=true)/\Below w w wr) (fun y _=>n-(intOf y).toNat)
  case atStart=>exact⟨0,Nat.zero_le _,rfl,fun k hk=>by omega,zC _ _⟩
  case round =>
   obtain⟨i,hi,rfl,hall,hb⟩:=hrel;by_cases hlt:i<n
   .have d1:(i:Int)<(n:Int):=by omega
    obtain⟨q1,q2⟩:=uh HA i hlt;have e1:=(hb.block g hl1).trans h1;have hf:=uh HF i hlt;have hall2:Op.ok (F[i]'(by omega))=true->∀k (hk:k<i+1) (hkn:k<n),Op.ok (F[k]'(by omega))=true:=by
     intro h k hk hkn;rcases Nat.lt_or_ge k i with hk2|hk2
     .exact hall k hk2 hkn
     .have:k=i:=by omega
      subst this;exact h
    generalize hO:F[i]'(by omega)=o at*;have k0:wr.cell? ⟨g,i*2,none⟩=some (.int .i64 o.kind):=by rw[cr e1];exact q1
    have k1:wr.cell? ⟨g,i*2+1,none⟩=some (.string o.data):=by rw[cr e1];exact q2
    have HAL:=aa hall2;have HFF:=aa hf;have C:=aa fun v=>jM o.kind 1 v
    obtain⟨kd,dt⟩:=o;dsimp only at k0 k1 C;clear q1 q2 e1 hall hall2 hf hO HA HT HF h1;refine nu ⟨kd,dt⟩ _ (fun a r=>?_) (fun a b r=>?_) (fun a b c r=>?_) (fun a b c r=>?_);all_goals dsimp only at*
    .have hR:=uh HFF r;subst hR;rw[show(decide (1<=kd)&&decide (kd<=255))=false by simp;omega]at C;clear HFF HAL r a;go_wp2_with (first|(go_at_call 48;refine cq (uh C _) ?_))
     go_ret
     exact⟨rfl,hb⟩
    .have hR:=uh HFF r;subst hR;rw[show(decide (1<=kd)&&decide (kd<=255))=false by simp;omega]at C;clear HFF HAL r a b;go_wp2_with (first|(go_at_call 48;refine cq (uh C _) ?_))
     go_ret
     exact⟨rfl,hb⟩
    .have f2:decide ((20:Int)<(dt.size:Int))=true:=decide_eq_true (by omega);have hR:=uh HFF r;subst hR;rw[show(decide (1<=kd)&&decide (kd<=255))=true by simp;omega]at C;clear HFF HAL r a b c;go_wp2_with (first|(go_at_call 48;refine cq (uh C _) ?_))
     go_ret
     exact⟨rfl,hb⟩
    .have f2:decide ((20:Int)<(dt.size:Int))=false:=decide_eq_false (by omega);have hR:=uh HAL r;have HR:=aa hR;rw[show(decide (1<=kd)&&decide (kd<=255))=true by simp;omega]at C;clear HFF HAL r a b c hR;go_wp2_with (first|(go_at_call 48;refine cq (uh C _) ?_))
     go_roundw
     case rel=>exact⟨i+1,by omega,by go_num,uh HR,hb⟩
     case measure=>simp[intOf];omega
   .have e:i=n:=by omega
    subst e;have d1:¬((i:Int)<(i:Int)):=by omega
    have hR:=uh HT fun k hk=>hall k hk hk
    subst hR;go_wp2
    go_ret
    exact⟨rfl,hb⟩
theorem nA(v:Value)(F:List Op.Opt)(w:World)(hm:F.length<=maxLen)(h:HoldsO w v F):Calls prog 125 #[v] w fun e w'=>e=.returned (.bool (Op.right F))/\Below w w w':=by
 rcases h with⟨ad,cp,rfl,rfl⟩|⟨g,cp,cur,rfl,h2,_,h4⟩
 .exact mC ad cp w
 .exact mD g cp F cur w hm h2 h4
theorem iA:(prog.info? 5).map (fun i=>(i.zero,i.size,i.bytes))=some (some (.int .u8 0),1,1):=by kernel_rfl
theorem v_:madeCells #[Value.int .u8 0] 0=#[]:=by kernel_rfl
theorem wd:madeCells #[Value.int .u8 0] 1=#[.int .u8 0]:=by kernel_rfl
theorem we:madeCells #[Value.int .u8 0] 2=#[.int .u8 0,.int .u8 0]:=by kernel_rfl
theorem wg:madeCells #[Value.int .u8 0] 4=#[.int .u8 0,.int .u8 0,.int .u8 0,.int .u8 0]:=by kernel_rfl
theorem wh(w:World):(Instr.makeSlice 22 (0:Int) (0:Int)).run prog w=.ok (.slice (some (w,0)) 0 0) (w.alloc (.cells #[] 5)) :=
 v_▸run_make_row' (P:=prog) 22 5 (.int .u8 0) 1 underlying22 iA rfl .i64 .i64 0 (by decide) (by decide) w
theorem wj(w:World):(Instr.makeSlice 22 (1:Int) (1:Int)).run prog w=.ok (.slice (some (w,0)) 1 1) (w.alloc (.cells #[.int .u8 0] 5)) :=
 wd▸run_make_row' (P:=prog) 22 5 (.int .u8 0) 1 underlying22 iA rfl .i64 .i64 1 (by decide) (by decide) w
theorem tw(w:World):(Instr.makeSlice 22 (2:Int) (2:Int)).run prog w=.ok (.slice (some (w,0)) 2 2) (w.alloc (.cells #[.int .u8 0,.int .u8 0] 5)) :=
 we▸run_make_row' (P:=prog) 22 5 (.int .u8 0) 1 underlying22 iA rfl .i64 .i64 2 (by decide) (by decide) w
theorem tz(w:World):(Instr.makeSlice 22 (4:Int) (4:Int)).run prog w=.ok (.slice (some (w,0)) 4 4) (w.alloc (.cells #[.int .u8 0,.int .u8 0,.int .u8 0,.int .u8 0] 5)) :=
 wg▸run_make_row' (P:=prog) 22 5 (.int .u8 0) 1 underlying22 iA rfl .i64 .i64 4 (by decide) (by decide) w
theorem FI(w:World):(convert 22 9 (.slice (some (w,0)) 0 0)).run prog (w.alloc (.cells #[] 5))=.ok (.string (strOfNums [])) (w.alloc (.cells #[] 5)) :=
 run_convert_bytes_arg (P:=prog) _ 22 5 underlying22 underlying5 w 0 0 0 [] rfl (fun i hi=>by cases hi) 9 underlying9
theorem wm(w:World)(a:Int):(convert 22 9 (.slice (some (w,0)) 1 1)).run prog (w.alloc (.cells #[.int .u8 a] 5))=.ok (.string (strOfNums [a])) (w.alloc (.cells #[.int .u8 a] 5)) :=
 run_convert_bytes_arg (P:=prog) _ 22 5 underlying22 underlying5 w 0 1 1 [a] rfl (fun i hi=>by
  rw[World.cell?_alloc_at _ _ _ _ (by simp)];match i,hi with
  | 0,_=>rfl) 9 underlying9
theorem tA(w:World)(a b:Int):(convert 22 9 (.slice (some (w,0)) 2 2)).run prog (w.alloc (.cells #[.int .u8 a,.int .u8 b] 5))=.ok (.string (strOfNums [a,b])) (w.alloc (.cells #[.int .u8 a,.int .u8 b] 5)) :=
 run_convert_bytes_arg (P:=prog) _ 22 5 underlying22 underlying5 w 0 2 2 [a,b] rfl (fun i hi=>by
  rw[World.cell?_alloc_at _ _ _ _ (by simp)];match i,hi with
  | 0,_=>rfl
  | 1,_=>rfl) 9 underlying9
theorem tC(w:World)(a b c d:Int):(convert 22 9 (.slice (some (w,0)) 4 4)).run prog (w.alloc (.cells #[.int .u8 a,.int .u8 b,.int .u8 c,.int .u8 d] 5))=.ok (.string (strOfNums [a,b,c,d])) (w.alloc (.cells #[.int .u8 a,.int .u8 b,.int .u8 c,.int .u8 d] 5)) :=
 run_convert_bytes_arg (P:=prog) _ 22 5 underlying22 underlying5 w 0 4 4 [a,b,c,d] rfl (fun i hi=>by
  rw[World.cell?_alloc_at _ _ _ _ (by simp)];match i,hi with
  | 0,_=>rfl
  | 1,_=>rfl
  | 2,_=>rfl
  | 3,_=>rfl) 9 underlying9
def fu(n:Nat):ByteArray:=strOfNums [(n:Int)%256]
def ji(n:Nat):ByteArray:=strOfNums [(n:Int) / 256%256,(n:Int)%256]
def cK(n:Nat):ByteArray:=strOfNums [(n:Int) / 16777216%256,(n:Int) / 65536%256,(n:Int) / 256%256,(n:Int)%256]
theorem se(n:Nat)(w:World):Calls prog 218 #[n,(0:Int)] w fun e w'=>e=.returned (.string ⟨#[]⟩)/\Below w w w':=by
 have hm:=wh;have hc:=FI w;go_enter func218,ntmps218
 go_wp2_with fail
 go_rounds 1
 go_ret
 exact⟨rfl,(zC _ _).alloc (zD _) _⟩
theorem wn(n:Nat)(w:World):Calls prog 218 #[n,(1:Int)] w fun e w'=>e=.returned (.string (fu n))/\Below w w w':=by
 have hm:=wj;have hc:=wm w;unfold fu;go_enter func218,ntmps218
 go_wp2_with fail
 go_rounds 2
 go_ret
 exact⟨rfl,(zC _ _).alloc (zD _) _⟩
theorem FJ(n:Nat)(w:World):Calls prog 218 #[n,(2:Int)] w fun e w'=>e=.returned (.string (ji n))/\Below w w w':=by
 have hm:=tw;have hc:=tA w;unfold ji;go_enter func218,ntmps218
 go_wp2_with fail
 go_rounds 3
 go_ret
 exact⟨rfl,(zC _ _).alloc (zD _) _⟩
theorem pL(n:Nat)(w:World):Calls prog 218 #[n,(4:Int)] w fun e w'=>e=.returned (.string (cK n))/\Below w w w':=by
 have hm:=tz;have hc:=tC w;unfold cK;go_enter func218,ntmps218
 go_wp2_with fail
 go_rounds 5
 go_ret
 exact⟨rfl,(zC _ _).alloc (zD _) _⟩
theorem tD(n:Nat)(w:World):Calls prog 106 #[n,(2:Int)] w fun e w'=>e=.returned (.string (ji n))/\Below w w w':=by
 have hm:=tw;have hc:=tA w;unfold ji;go_enter func106,ntmps106
 go_wp2_with fail
 go_rounds 3
 go_ret
 exact⟨rfl,(zC _ _).alloc (zD _) _⟩
theorem jR(n:Nat)(w:World):Calls prog 106 #[n,(4:Int)] w fun e w'=>e=.returned (.string (cK n))/\Below w w w':=by
 have hm:=tz;have hc:=tC w;rw[show cK n=strOfNums [(n:Int) / 256 / 256 / 256%256,(n:Int) / 256 / 256%256,(n:Int) / 256%256,(n:Int)%256]by
  unfold cK;rw[show(n:Int) / 16777216=(n:Int) / 256 / 256 / 256 by omega,show(n:Int) / 65536=(n:Int) / 256 / 256 by omega]]
 go_enter func106,ntmps106
 go_wp2_with fail
 go_rounds 5
 go_ret
 exact⟨rfl,(zC _ _).alloc (zD _) _⟩
theorem yp(m a g:Int)(p c d:Bool)(w:World):Calls prog 170 #[cN m a g p c d] w fun e w'=>e=.returned (.tuple #[m,.bool (m != 300)])/\Below w w w':=by
 go_enter func170,ntmps170
 go_wp2_with fail
 go_quiet (fail)
 go_wp2
 go_ret2
 exact⟨rfl,aH ((zC _ _).alloc (zD _) _) _⟩
theorem yq(m a g:Int)(p c d:Bool)(w:World):Calls prog 176 #[cN m a g p c d] w fun e w'=>e=.returned (.tuple #[a,.bool (a != 4294967295)])/\Below w w w':=by
 go_enter func176,ntmps176
 go_wp2_with fail
 go_quiet (fail)
 go_wp2
 go_ret2
 exact⟨rfl,aH ((zC _ _).alloc (zD _) _) _⟩
theorem yr(m a g:Int)(p c d:Bool)(w:World):Calls prog 181 #[cN m a g p c d] w fun e w'=>e=.returned (.tuple #[g,.bool (g != 0)])/\Below w w w':=by
 go_enter func181,ntmps181
 go_wp2_with fail
 go_quiet (fail)
 go_wp2
 go_ret2
 exact⟨rfl,aH ((zC _ _).alloc (zD _) _) _⟩
theorem yt(m a g:Int)(p c d:Bool)(w:World):Calls prog 187 #[cN m a g p c d] w fun e w'=>e=.returned (.tuple #[(0:Int),p])/\Below w w w':=by
 go_enter func187,ntmps187
 go_wp2_with fail
 go_quiet (fail)
 go_wp2
 go_ret2
 exact⟨rfl,aH ((zC _ _).alloc (zD _) _) _⟩
theorem yu(m a g:Int)(p c d:Bool)(w:World):Calls prog 192 #[cN m a g p c d] w fun e w'=>e=.returned (.tuple #[(0:Int),c])/\Below w w w':=by
 go_enter func192,ntmps192
 go_wp2_with fail
 go_quiet (fail)
 go_wp2
 go_ret2
 exact⟨rfl,aH ((zC _ _).alloc (zD _) _) _⟩
theorem G_(m a g:Int)(p c d:Bool)(w:World):Calls prog 197 #[cN m a g p c d] w fun e w'=>e=.returned (.tuple #[(4:Int),d])/\Below w w w':=by
 go_enter func197,ntmps197
 go_wp2_with fail
 go_quiet (fail)
 go_wp2
 go_ret2
 exact⟨rfl,aH ((zC _ _).alloc (zD _) _) _⟩
def c_(b:Bool)(k:Int)(t:ByteArray):List Op.Opt:=if b then[⟨k,t⟩]else[]
theorem bD(k:Int)(t:ByteArray):c_ true k t=[⟨k,t⟩]:=rfl
theorem dG(k:Int)(t:ByteArray):c_ false k t=[]:=rfl
def eZ(m a g:Nat)(p c d:Bool):List (List Op.Opt) :=
 [c_ ((m:Int) != 300) 1 (ji m),c_ ((a:Int) != 4294967295) 2 (cK a),c_ ((g:Int) != 0) 5 (cK g),c_ p 7 ⟨#[]⟩,c_ c 8 ⟨#[]⟩,c_ d 9 (fu 4)]
def jZ(m a g:Nat)(p c d:Bool)(i:Nat):List Op.Opt:=((eZ m a g p c d).take i).flatten
theorem oC(b:Bool)(k:Int)(t:ByteArray):(c_ b k t).length<=1:=by unfold c_;split<;>simp
theorem dp(m a g:Nat)(p c d:Bool)(i:Nat):(jZ m a g p c d i).length<=6:=by
 have h:∀(n:Nat) (l:List (List Op.Opt)),l.length=n->(∀x∈l,x.length<=1)->l.flatten.length<=n:=by
  intro n l hl hx;induction l generalizing n with
  | nil=>simp
  | cons x l ih =>
   have h1:=hx x (by simp);have h2:=ih _ rfl fun y hy=>hx y (by simp[hy])
   rw[List.flatten_cons,List.length_append];rw[List.length_cons]at hl;omega
 have hA:∀x∈eZ m a g p c d,x.length<=1:=by
  intro x hx;simp only[eZ,List.mem_cons,List.not_mem_nil,or_false]at hx;rcases hx with rfl|rfl|rfl|rfl|rfl|rfl<;>exact oC _ _ _
 have:=h _ ((eZ m a g p c d).take i) rfl fun x hx=>hA x (List.mem_of_mem_take hx)
 have h6:((eZ m a g p c d).take i).length<=6:=by rw[List.length_take];simp[eZ];omega
 unfold jZ;omega
abbrev uD:Value:=.agg #[(1:Int),(2:Int),(5:Int),(7:Int),(8:Int),(9:Int)]
structure AskR(m a g:Nat)(p c d:Bool)(i:Nat)(k s:Int)(f f2 f3 f4 f5 n j:Nat)(b:Bool)(t:ByteArray):Prop where
 ix:∀W,(Instr.index 304 uD i).run prog W=.ok k W
 fd:Instr.findNow (.int .i64) k cI.toList 0=some (some (j,aZ s f f2 f3 f4 f5))
 cf:∀args W,(callFunc f args).run prog W=.ok (.enter f args) W
 ask:∀v,Calls prog f #[cN m a g p c d] v fun e w'=>e=.returned (.tuple #[n,b])/\Below v v w'
 num:∀v,Calls prog 218 #[n,s] v fun e w'=>e=.returned (.string t)/\Below v v w'
 lst:jZ m a g p c d (i+1)=jZ m a g p c d i++c_ b k t
theorem sf(m a g:Nat)(p c d:Bool)(i:Nat)(hi:i<6):∃k s f f2 f3 f4 f5 n j b t,AskR m a g p c d i k s f f2 f3 f4 f5 n j b t:=by
 match i,hi with
 | 0,_=>exact⟨_,_,_,_,_,_,_,_,_,_,_,⟨fun W=>rfl,rfl,bM (by kernel_rfl),fun v=>yp m a g p c d v,fun v=>FJ m v,by simp[jZ,eZ]⟩⟩
 | 1,_=>exact⟨_,_,_,_,_,_,_,_,_,_,_,⟨fun W=>rfl,rfl,bM (by kernel_rfl),fun v=>yq m a g p c d v,fun v=>pL a v,by simp[jZ,eZ]⟩⟩
 | 2,_=>exact⟨_,_,_,_,_,_,_,_,_,_,_,⟨fun W=>rfl,rfl,bM (by kernel_rfl),fun v=>yr m a g p c d v,fun v=>pL g v,by simp[jZ,eZ]⟩⟩
 | 3,_=>exact⟨_,_,_,_,_,_,_,0,_,_,_,⟨fun W=>rfl,rfl,bM (by kernel_rfl),fun v=>yt m a g p c d v,fun v=>se 0 v,by simp[jZ,eZ]⟩⟩
 | 4,_=>exact⟨_,_,_,_,_,_,_,0,_,_,_,⟨fun W=>rfl,rfl,bM (by kernel_rfl),fun v=>yu m a g p c d v,fun v=>se 0 v,by simp[jZ,eZ]⟩⟩
 | 5,_=>exact⟨_,_,_,_,_,_,_,4,_,_,_,⟨fun W=>rfl,rfl,bM (by kernel_rfl),fun v=>G_ m a g p c d v,fun v=>wn 4 v,by simp[jZ,eZ]⟩⟩
theorem cD(hgd:o.guard=none)(s x:Operand)(ho:o.op=.call {callee:=.builtin .append,args:=#[s,x],argTypes:=#[28,28]})(base:Nat)(v:Value)(F:List Op.Opt)(n:Nat)(hn:F.length=n)(hs:a.eval s=v)(hown:wr.ownsRow base 105 2 v n (aj F))(kd:Int)(dt:ByteArray)(hx:a.eval x=.slice (some (wr,0)) 1 1)(hlen:n<=1000)(hbase:base<=wr.heap.size)(h:∀v' w',w'.ownsRow base 105 2 v' (n+1) (aj (F++[⟨kd,dt⟩]))->(wr.alloc (.cells #[kd,dt] 105)).grownBy w' v.ownBlock->wpList prog ops Q rest (a.put o.dst v') w'):wpList prog ops Q (o::rest) a (wr.alloc (.cells #[kd,dt] 105)):=by
 obtain⟨i0,hi0,hz0,hz1,hz2⟩:=kW;refine wpList_append_own _ hgd s x 28 ho base 105 i0 _ 2 24 underlying28 hi0 hz0 hz1 hz2 rfl (by decide) v n (aj F) hs (hown.alloc _) (wr,0) 1 1 [kd,dt] hx rfl ?_ ?_ ?_ ?_ ?_ ?_
 .intro i u hu;rw[Addr.add_lit,Nat.zero_add,World.cell?_alloc_at _ _ _ _ rfl,<- hu];simp
 .intro u hu;simp only[List.mem_cons,List.not_mem_nil,or_false]at hu;rcases hu with rfl|rfl<;>rfl
 .unfold maxLen;omega
 .omega
 .simp;omega
 .intro v' w2 hown2 hg2 _;refine h v' w2 ?_ hg2;rw[bV];exact hown2
def ae(fs:List Op.Pk):List Value:=fs.flatMap fun f=>[f.code,f.id,f.data]
theorem aF(fs:List Op.Pk):(ae fs).length=fs.length*3:=by
 induction fs with
 | nil=>rfl
 | cons f fs ih=>simp[ae]at ih|-;omega
theorem aR(fs gs:List Op.Pk):ae (fs++gs)=ae fs++ae gs:=by simp[ae]
theorem AF:∃i,prog.info? 85=some i/\i.zero=some (.agg #[(0:Int),(0:Int),.string ⟨#[]⟩])/\i.size=3/\i.bytes=32:=by
 have h:(prog.info? 85).map (fun i=>(i.zero,i.size,i.bytes))=some (some (.agg #[(0:Int),(0:Int),.string ⟨#[]⟩]),3,32):=by kernel_rfl
 obtain⟨i,hi,hzz⟩:=Option.map_eq_some_iff.1 h;simp only[Prod.mk.injEq]at hzz;exact⟨i,hi,hzz.1,hzz.2.1,hzz.2.2⟩
def HoldsP(w:World)(v:Value)(F:List Op.Pk):Prop :=
 (∃ad cp,v=.slice ad 0 cp/\F=[])\/∃g cp cur,v=.slice (some ⟨g,0,none⟩) F.length cp/\w.heap[g]?=some (.cells cur 85)/\F.length*3<=cur.size/\∀j,j<F.length*3->cur[j]?=(ae F)[j]?
theorem HoldsP.own(h:w.ownsRow base 85 3 v F.length (ae F)):HoldsP w v F:=by
 rcases h.2 with⟨h1,h2⟩|⟨g,cap,cur,h1,_,h3,h4,_,h6,h7⟩
 .exact Or.inl ⟨_,_,h1,List.eq_nil_of_length_eq_zero h2⟩
 .refine Or.inr ⟨g,cap,cur,h1,h3,by rw[h6];omega,fun j hj=>?_⟩;rw[<- h7,List.getElem?_take,if_pos hj,Array.getElem?_toList]
theorem HoldsP.below(h:HoldsP w v F)(hb:Below n w w')(hn:n=w.heap.size):HoldsP w' v F:=by
 subst hn;exact h.imp id fun⟨g,cp,cur,h1,h2,h3⟩=>⟨g,cp,cur,h1,(hb.block g (ge.1 h2).1).trans h2,h3⟩
theorem HoldsP.form(h:HoldsP w v F):∃ad cp,v=.slice ad F.length cp:=by
 rcases h with⟨ad,cp,h1,h2⟩|⟨g,cp,cur,h1,_⟩
 .exact ⟨ad,cp,by rw[h1,h2];rfl⟩
 .exact ⟨_,_,h1⟩
theorem HoldsP.other(h:HoldsP w v F)(hw:∀g,v.ownBlock=some g->w'.heap[g]?=w.heap[g]?):HoldsP w' v F:=by
 rcases h with⟨ad,cp,e,e0⟩|⟨g,cp,cur,e,q1,q2⟩
 .exact Or.inl ⟨ad,cp,e,e0⟩
 .exact Or.inr ⟨g,cp,cur,e,(hw g (by rw[e];rfl)).trans q1,q2⟩
theorem HoldsP.lt(h:HoldsP w v F)(hF:F≠[])(g:Nat)(hg:v.ownBlock=some g):g<w.heap.size:=by
 rcases h with⟨_,_,_,e⟩|⟨g',cp,cur,e,q1,_⟩
 .exact absurd e hF
 .rw [e]at hg;cases hg;exact(ge.1 q1).1
theorem jL(hgd:o.guard=none)(s x:Operand)(ho:o.op=.call {callee:=.builtin .append,args:=#[s,x],argTypes:=#[60,60]})(base:Nat)(v:Value)(F:List Op.Pk)(n:Nat)(hn:F.length=n)(hs:a.eval s=v)(hown:wr.ownsRow base 85 3 v n (ae F))(cd id:Int)(dt:ByteArray)(hx:a.eval x=.slice (some (wr,0)) 1 1)(hlen:n<=1000)(hbase:base<=wr.heap.size)(h:∀v' w',w'.ownsRow base 85 3 v' (n+1) (ae (F++[⟨cd,id,dt⟩]))->(wr.alloc (.cells #[cd,id,dt] 85)).grownBy w' v.ownBlock->wpList prog ops Q rest (a.put o.dst v') w'):wpList prog ops Q (o::rest) a (wr.alloc (.cells #[cd,id,dt] 85)):=by
 obtain⟨i0,hi0,hz0,hz1,hz2⟩:=AF;refine wpList_append_own _ hgd s x 60 ho base 85 i0 _ 3 32 underlying60 hi0 hz0 hz1 hz2 rfl (by decide) v n (ae F) hs (hown.alloc _) (wr,0) 1 1 [cd,id,dt] hx rfl ?_ ?_ ?_ ?_ ?_ ?_
 .intro i u hu;rw[Addr.add_lit,Nat.zero_add,World.cell?_alloc_at _ _ _ _ rfl,<- hu];simp
 .intro u hu;simp only[List.mem_cons,List.not_mem_nil,or_false]at hu;rcases hu with rfl|rfl|rfl<;>rfl
 .unfold maxLen;omega
 .omega
 .simp;omega
 .intro v' w2 hown2 hg2 _;refine h v' w2 ?_ hg2;rw[aR];exact hown2
def dgf:Nat->Nat->ByteArray->ByteArray
 | 0,_,o=>o
 | f+1,k,o=>if k=0 then o else dgf f (k / 10) (strOfNums [((48+k%10:Nat):Int)]++o)
def rC(k:Nat):ByteArray:=⟨#[109]⟩++dgf k k ⟨#[]⟩
def mpk(k n:Nat):List Op.Pk:=(List.range n).map fun i=>⟨((k+3*i:Nat):Int),((k+3*i+1:Nat):Int),rC (k+3*i+2)⟩
structure Off(N R:Nat)(w w':World):Prop where
 os:w'.os=w.os
 tape:w'.tape=w.tape
 output:w'.output=w.output
 size:w.heap.size<=w'.heap.size
 block:∀k,k<N->k≠R->w'.heap[k]?=w.heap[k]?
theorem Off.refl(N R:Nat)(w:World):Off N R w w:=⟨rfl,rfl,rfl,zD _,fun _ _ _=>rfl⟩
theorem Off.trans{a b c:World}(h:Off N R a b)(k:Off N R b c):Off N R a c :=
 ⟨k.os.trans h.os,k.tape.trans h.tape,k.output.trans h.output,zE h.size k.size,fun i hi hn=>(k.block i hi hn).trans (h.block i hi hn)⟩
theorem Nr.off(h:Nr R w w')(hN:N<=w.heap.size):Off N R w w':=⟨h.os,h.tape,h.output,h.size,fun k hk hn=>h.block k (by omega) hn⟩
theorem Off.of_below(h:Below N w w'):Off N R w w':=⟨h.os,h.tape,h.output,h.size,fun k hk _=>h.block k hk⟩
theorem Off.below(h:Off N R w w')(h1:n<=N)(h2:n<=R):Below n w w':=⟨h.os,h.tape,h.output,h.size,fun k hk=>h.block k (by omega) (by omega)⟩
theorem Off.setR{a:World}(h:Off N R a w)(o:Nat)(v:Value):Off N R a (w.setCell (R,o) v):=by
 have hb:=(zC 0 w).setCell (p:=(R,o)) (Nat.zero_le _) v;exact⟨hb.os.trans h.os,hb.tape.trans h.tape,hb.output.trans h.output,zE h.size hb.size,fun k hk hn=>(zJ w (R,o) v k hn).trans (h.block k hk hn)⟩
theorem ic{e:TypeId}{size:Nat}{xs:List Value}(h:w.ownsRow base e size v n xs)(hn:Nr R w w')(hb:R<base):w'.ownsRow base e size v n xs :=
 aY h fun g h1 h2=>hn.block g h2 (by omega)
theorem sM:∃i,prog.info? 2=some i/\i.zero=some (.int .i64 0)/\i.size=1/\i.bytes=8:=by
 have h:(prog.info? 2).map (fun i=>(i.zero,i.size,i.bytes))=some (some ((0:Int):V),1,8):=by kernel_rfl
 obtain⟨i,hi,hzz⟩:=Option.map_eq_some_iff.1 h;simp only[Prod.mk.injEq]at hzz;exact⟨i,hi,hzz.1,hzz.2.1,hzz.2.2⟩
theorem jt(hgd:o.guard=none)(s x:Operand)(ho:o.op=.call {callee:=.builtin .append,args:=#[s,x],argTypes:=#[25,25]})(base:Nat)(v:Value)(n:Nat)(L:List Value)(hs:a.eval s=v)(hown:wr.ownsRow base 2 1 v n L)(c:Int)(hx:a.eval x=.slice (some (wr,0)) 1 1)(hlen:n<=1000)(hbase:base<=wr.heap.size)(h:∀v' w',w'.ownsRow base 2 1 v' (n+1) (L++[.int .i64 c])->Below base wr w'->wpList prog ops Q rest (a.put o.dst v') w'):wpList prog ops Q (o::rest) a (wr.alloc (.cells #[.int .i64 c] 2)):=by
 obtain⟨ui,hi1,hi2,hi3,hi4⟩:=sM;refine wpList_append_own _ hgd s x 25 ho base 2 ui (0:Int) 1 8 underlying25 hi1 hi2 hi3 hi4 rfl (by decide) v n L hs (hown.alloc _) (wr,0) 1 1 [c] hx rfl ?_ ?_ ?_ ?_ ?_ ?_
 .intro i u hu;rw[Addr.add_lit,Nat.zero_add,World.cell?_alloc_at _ _ _ _ rfl,<- hu];simp
 .intro u hu;simp only[List.mem_singleton]at hu;subst hu;rfl
 .unfold maxLen;omega
 .omega
 .simp;omega
 .intro v' w2 hown2 hg2 _;exact h v' w2 hown2 (((zC _ _).alloc hbase _).grown hg2 (by simp;omega) (fun q hq=>by exact(World.ownsRow.lt hown q hq).1))
def Rdg(w:World)(R N B:Nat)(p:Value)(ah ms lk:Int)(l:List UInt8)(ss:List Value)(ct:Int)(t:ByteArray):Prop :=
 ∃v s,w.heap[R]?=some (.cells #[p,ah,ms,lk,v,s,ct,t] 219)/\Rest w B v l/\w.ownsRow N 2 1 s ss.length ss
theorem gn(R N B:Nat)(p:Value)(ah ms lk:Int)(l:List UInt8)(ss:List Value)(ct:Int)(t:ByteArray)(w:World)(hRN:R<N)(hBN:B<N)(hN:N<=w.heap.size)(hne:B≠R)(hss:ss.length<=4)(h:Rdg w R N B p ah ms lk l ss ct t):Calls prog 211 #[.pointer (some ⟨R,0,none⟩)] w fun e w'=>Off N R w w'/\((l=[]/\e=.returned (cS lk))\/∃c r,l=c::r/\e=.returned .nilIface/\Rdg w' R N B p ah ms lk r (ss++[.int .i64 c.toNat]) ct t):=by
 obtain⟨v,s,hR,hv,ho⟩:=h;obtain⟨sa,sc,hsf⟩:=af ho;subst hsf;rcases l with _|⟨c,r⟩
 .have C:=aa (jK R B 1 [] v lk p ah ms (sa,ss.length,sc) ct t w (by simp) hv hR);have HR:=aa hR;have HO:=aa ho;clear hR ho hv;go_enter func211,ntmps211
  go_wp2_with fail
  refine C.out.mono ?_;rintro e w1⟨rfl,k,hk⟩;have hn1:Nr R w w1:=by rw[hk];exact(Nr.refl _ _).drewN k
  have hR1:=(show w1.heap[R]?=w.heap[R]? by rw[hk];rfl).trans HR.out;have hN1:=zE hN hn1.size;obtain⟨c0,c1,c2,c3,c4,c5,c6,c7,cf⟩:=j_ hR1;have HR1:=aa hR1;have HO1:=aa (ic HO.out hn1 hRN);clear C hk cf hR1
  go_wp2_with (first
   | (at_builtin;refine jt rfl _ _ rfl N (sa,ss.length,sc) ss.length ss rfl HO1.out 0 rfl (by omega) hN1 ?_;rintro v2 w2 ho2 hb2;obtain⟨va,vc,hv2⟩:=af ho2;subst hv2;have hR2:=(hb2.block R hRN).trans HR1.out;obtain⟨e0,e1,e2,e3,e4,e5,e6,e7,ef⟩:=j_ hR2;have hf2:=ef 5;clear ef hR2 ho2))
  go_ret
  exact⟨((hn1.off hN).trans (Off.of_below hb2)).setR 5 _,Or.inl ⟨trivial,rfl⟩⟩
 .have C:=aa (pn R B 1 (c::r) v p ah ms lk (sa,ss.length,sc) ct t w (by decide) (by simp) (by omega) hne hv hR);rw[show da (List.take 1 (c::r))=c.toNat by simp[da],show List.drop 1 (c::r)=r from rfl]at C;have HO:=aa ho;clear hR ho hv;go_enter func211,ntmps211
  go_wp2_with fail
  refine C.out.mono ?_;rintro e w1⟨rfl,v1,hR1,hv1,hn1⟩;have hN1:=zE hN hn1.size;obtain⟨c0,c1,c2,c3,c4,c5,c6,c7,cf⟩:=j_ hR1;have HR1:=aa hR1;have HV1:=aa hv1;have HO1:=aa (ic HO.out hn1 hRN);clear C cf hR1 hv1
  go_wp2_with (first
   | (at_builtin;refine jt rfl _ _ rfl N (sa,ss.length,sc) ss.length ss rfl HO1.out c.toNat rfl (by omega) hN1 ?_;rintro v2 w2 ho2 hb2;obtain⟨va,vc,hv2⟩:=af ho2;subst hv2;have hR2:=(hb2.block R hRN).trans HR1.out;obtain⟨e0,e1,e2,e3,e4,e5,e6,e7,ef⟩:=j_ hR2;have hf2:=ef 5;have HO2:=aa ho2;have HR2:=aa hR2;clear ef hR2 ho2))
  go_ret
  refine⟨((hn1.off hN).trans (Off.of_below hb2)).setR 5 _,Or.inr ⟨c,r,rfl,rfl,v1,(va,ss.length+1,vc),?_,?_,?_⟩⟩
  .rw [zH _ _ 5 _ _ _ HR2.out];rfl
  .exact HV1.out.same ((zJ w2 (R,5) _ B hne).trans (hb2.block B hBN))
  .rw [List.length_append];exact aY HO2.out fun g hg _=>zJ w2 (R,5) _ g (by show g≠R;omega)
def oL(ah ms:Int)(n:Nat)(l:List UInt8):Bool:=decide ((n:Int)-ah<0\/ms<(n:Int)-ah\/(l.length:Int)<(n:Int)-ah)
theorem Rdg.nr{B:Nat}{p:Value}{ah ms lk:Int}{l:List UInt8}{ss:List Value}{ct:Int}{t:ByteArray}(h:Rdg w R N B p ah ms lk l ss ct t)(h1:w'.heap[R]?=w.heap[R]?)(h2:Nr R w w')(hRN:R<N)(hB:B<w.heap.size)(hne:B≠R):Rdg w' R N B p ah ms lk l ss ct t:=by
 obtain⟨v,s,e1,e2,e3⟩:=h;exact⟨v,s,h1.trans e1,e2.same (h2.block B hB hne),ic e3 h2 hRN⟩
theorem m6(R N B:Nat)(p:Value)(ah ms lk:Int)(l:List UInt8)(ss:List Value)(ct:Int)(t:ByteArray)(n:Nat)(w:World)(hRN:R<N)(hB:B<w.heap.size)(hne:B≠R)(hn:n<=65535)(ha1:0<=ah)(ha2:ah<=10)(h:Rdg w R N B p ah ms lk l ss ct t):Calls prog 220 #[(R,0),n] w fun e w'=>e=.returned (if oL ah ms n l=true then cS 3 else .nilIface)/\Nr R w w'/\Rdg w' R N B p ah ms lk l ss ((n:Int)-ah) t:=by
 obtain⟨v,s,hR,hv,ho⟩:=h;obtain⟨off,cap,hvf,hcap,hl⟩:=hv;subst hvf;obtain⟨c0,c1,c2,c3,c4,c5,c6,c7,cf⟩:=j_ hR;have hf:=cf 6;have HR:=aa hR;clear cf hR;have HF:Hid (∀w',w'.heap[R]?=some (.cells #[p,ah,ms,lk,.slice (some (B,off)) l.length cap,s,.int .i64 ((n:Int)-ah),t] 219)->Nr R w w'->Rdg w' R N B p ah ms lk l ss ((n:Int)-ah) t) :=
  aa fun w' q1 q2=>⟨_,s,q1,⟨off,cap,rfl,hcap,hl.same (q2.block B hB hne)⟩,ic ho q2 hRN⟩
 have hb:(decide ((n:Int)-ah<0)=true/\oL ah ms n l=true)\/(decide ((n:Int)-ah<0)=false/\decide (ms<(n:Int)-ah)=true/\oL ah ms n l=true)\/(decide ((n:Int)-ah<0)=false/\decide (ms<(n:Int)-ah)=false/\decide ((l.length:Int)<(n:Int)-ah)=true/\oL ah ms n l=true) \/
   (decide ((n:Int)-ah<0)=false/\decide (ms<(n:Int)-ah)=false/\decide ((l.length:Int)<(n:Int)-ah)=false/\oL ah ms n l=false):=by
  unfold oL;by_cases h1:(n:Int)-ah<0
  .exact Or.inl ⟨decide_eq_true h1,decide_eq_true (Or.inl h1)⟩
  .by_cases h2:ms<(n:Int)-ah
   .exact Or.inr (Or.inl ⟨decide_eq_false h1,decide_eq_true h2,decide_eq_true (Or.inr (Or.inl h2))⟩)
   .by_cases h3:(l.length:Int)<(n:Int)-ah
    .exact Or.inr (Or.inr (Or.inl ⟨decide_eq_false h1,decide_eq_false h2,decide_eq_true h3,decide_eq_true (Or.inr (Or.inr h3))⟩))
    .exact Or.inr (Or.inr (Or.inr ⟨decide_eq_false h1,decide_eq_false h2,decide_eq_false h3,decide_eq_false (by omega)⟩))
 generalize oL ah ms n l=bd at*;obtain⟨X,hX⟩:∃X:Int,(n:Int)-ah=X:=⟨_,rfl⟩;have HX:=aa hX;have HB:=aa hb;rw[hX]at HB HF|-;clear hb ho hl hX;go_enter func220,ntmps220
 go_wp2_with fail
 refine bb (fun q=>q.heap[R]?=some (.cells #[p,ah,ms,lk,.slice (some (B,off)) l.length cap,s,X,t] 219)/\Nr R w q)
  ⟨by rw[zH _ _ 6 _ _ _ HR.out,uh HX];rfl,(Nr.refl _ _).setCell 6 _⟩ ?_
 clear c0 c1 c2 c3 c4 c5 c6 c7 hf HR HX;rintro q⟨hR,hnr⟩;obtain⟨c0,c1,c2,c3,c4,c5,c6,c7,cf⟩:=j_ hR;have HR:=aa hR;have hb:=uh HB;clear cf hR HB;rcases hb with⟨e1,rfl⟩|⟨e1,e2,rfl⟩|⟨e1,e2,e3,rfl⟩|⟨e1,e2,e3,rfl⟩
 all_goals
  go_quiet (fail)
  go_wp2
  go_ret
  exact⟨rfl,hnr.drewN _,uh HF _ HR.out (hnr.drewN _)⟩
end Go.Proofs.YtjdgiimfpkideaaGreatDoor
