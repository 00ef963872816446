/- VerdOf RepMath VOn VOn2 OptApp AskI -/
import Derived.Test.YtahpjlbaagkdoaaGreatDoorS06
set_option maxHeartbeats 8000000
set_option maxRecDepth 100000
namespace Go.Proofs.YtahpjlbaagkdoaaGreatDoor
open Go.RowKit Go.Proofs.Tryz
structure JudR (m a g:Nat) (p c d:Bool) (k:Int) (s f f2 f3 f4 f5 j:Nat) (cd:Nat→Int) (bt:Nat→Nat) (tx:Nat→ByteArray):Prop where
  fd:Instr.findNow (.int .i64) (.int .i64 k) rules.toList 0=some (some (j,ruleV s f f2 f3 f4 f5))
  cf:∀ args W,(callFunc f2 args).run prog W=.ok (.enter f2 args) W
  jd:∀ (n:Nat) v,n<4294967296→Calls prog f2 #[cfgV m a g p c d,.int .i64 n] v fun e w'=>e=.returned (.tuple #[.int .i64 (cd n),.int .i64 (bt n:Nat)])∧Below v.heap.size v w'
  nb:∀ (n:Nat) v,Calls prog 211 #[.int .i64 (bt n:Nat),.int .i64 s] v fun e w'=>e=.returned (.string (tx n))∧Below v.heap.size v w'
theorem start4r (w:World) (a b c d:Obj):((((w.alloc a).alloc b).alloc c).alloc d).heap.size=w.heap.size+1+1+1+1∧((((w.alloc a).alloc b).alloc c).alloc d).heap[w.heap.size]?=some a∧((((w.alloc a).alloc b).alloc c).alloc d).heap[w.heap.size+1]?=some b ∧
    ((((w.alloc a).alloc b).alloc c).alloc d).heap[w.heap.size+1+1]?=some c∧((((w.alloc a).alloc b).alloc c).alloc d).heap[w.heap.size+1+1+1]?=some d∧Below w.heap.size w ((((w.alloc a).alloc b).alloc c).alloc d):=by
  have s1:(w.alloc a).heap.size=w.heap.size+1:=by simp
  have s2:((w.alloc a).alloc b).heap.size=w.heap.size+1+1:=by simp
  have s3:(((w.alloc a).alloc b).alloc c).heap.size=w.heap.size+1+1+1:=by simp
  have e1:=heap_alloc_new w a;have e2:=heap_alloc_new (w.alloc a) b;have e3:=heap_alloc_new ((w.alloc a).alloc b) c;have e4:=heap_alloc_new (((w.alloc a).alloc b).alloc c) d;rw [s1] at e2;rw [s2] at e3;rw [s3] at e4;refine ⟨by simp,?_,?_,?_,e4,((((Below.refl _ _).alloc (Nat.le_refl _) _).alloc (by omega) _).alloc (by omega) _).alloc (by omega) _⟩
  · rw [Below.heap_alloc _ _ _ (by omega),Below.heap_alloc _ _ _ (by omega),Below.heap_alloc _ _ _ (by omega)];exact e1
  · rw [Below.heap_alloc _ _ _ (by omega),Below.heap_alloc _ _ _ (by omega)];exact e2
  · rw [Below.heap_alloc _ _ _ (by omega)];exact e3
structure VdS (w:World) (R C O V:Array Value) (q:World):Prop where
  r:q.heap[w.heap.size]?=some (.cells R 185)
  c:q.heap[w.heap.size+1]?=some (.cells C 24)
  o:q.heap[w.heap.size+1+1]?=some (.cells O 116)
  v:q.heap[w.heap.size+1+1+1]?=some (.cells V 258)
  b:Below w.heap.size w q
theorem VdS.lt {w:World} {R C O V:Array Value} {q:World} (h:VdS w R C O V q):w.heap.size+1+1+1<q.heap.size:=(ge.1 h.v).1
theorem VdS.step {w:World} {R C O V:Array Value} {q q':World} (h:VdS w R C O V q) (hb:Below q.heap.size q q'):VdS w R C O V q':=by
  have hl:=h.lt;exact ⟨(hb.block _ (by omega)).trans h.r,(hb.block _ (by omega)).trans h.c,(hb.block _ (by omega)).trans h.o,(hb.block _ (by omega)).trans h.v,h.b.trans (hb.mono h.b.size)⟩
theorem VdS.drew {w:World} {R C O V:Array Value} {q:World} (h:VdS w R C O V q):VdS w R C O V q.drew:=⟨h.r,h.c,h.o,h.v,h.b.drew⟩
theorem info3:(prog.info? 258).map (·.size)=some 3:=by kernel_rfl
theorem load3vd {W:World} {E:Nat} {x0 x1 x2:Value} (h:W.heap[E]?=some (.cells #[x0,x1,x2] 258)):(loadVar 258 ⟨E,0,none⟩).run prog W=.ok (.agg #[x0,x1,x2]) W :=
  run_loadVar_row (P:=prog) _ _ 258 258 #[x0,x1,x2] (0,0) _ h underlying258 rfl info3
theorem set3_vd {W:World} {E:Nat} {z0 z1 z2:Value} {T:TypeId} (h:W.heap[E]?=some (.cells #[z0,z1,z2] T)) (x0 x1 x2:Value) :
    (((W.setCell ⟨E,0,none⟩ x0).setCell ⟨E,1,none⟩ x1).setCell ⟨E,2,none⟩ x2).heap[E]?=some (.cells #[x0,x1,x2] T) :=
  heap_setCell_same _ _ 2 _ _ x2 (heap_setCell_same _ _ 1 _ _ x1 (heap_setCell_same _ _ 0 _ _ x0 h))
theorem row3vd {w:World} {B:Nat} {x0 x1 x2:Value} {T:TypeId} (h:w.heap[B]?=some (.cells #[x0,x1,x2] T)) :
    w.cell? ⟨B,0,none⟩=some x0∧w.cell? ⟨B,1,none⟩=some x1∧w.cell? ⟨B,2,none⟩=some x2∧w.frozen? ⟨B,0,none⟩=false∧w.frozen? ⟨B,1,none⟩=false∧w.frozen? ⟨B,2,none⟩=false :=
  ⟨by rw [cr h];rfl,by rw [cr h];rfl,by rw [cr h];rfl,frz h _,frz h _,frz h _⟩
theorem verdOf (m a g:Nat) (p c d:Bool) (k:Int) (t:ByteArray) (s f f2 f3 f4 f5 j:Nat) (cd:Nat→Int) (bt:Nat→Nat) (tx:Nat→ByteArray) (w:World) (hJ:JudR m a g p c d k s f f2 f3 f4 f5 j cd bt tx) (ht:t.size≤4) :
    Calls prog 202 #[ruleV s f f2 f3 f4 f5,cfgV m a g p c d,.agg #[.int .i64 k,.string t]] w fun e w' =>
      e=.returned (.agg #[.int .i64 (cd (numOf t.data.toList)),.int .i64 k,.string (if cd (numOf t.data.toList) == 3 then tx (numOf t.data.toList) else t)])∧Below w.heap.size w w':=by
  have HN:=hide fun v=>numberOf k t v ht
  have hn:=numOf_lt4 t.data.toList (by rw [len_dat];exact ht);generalize numOf t.data.toList=n at *;have HJ:=hide fun v=>hJ.jd n v hn
  have HB:=hide fun v=>hJ.nb n v
  have HC:=hide fun v=>sameOpt k t v (by omega)
  have hcf:=hJ.cf;clear hJ hn;generalize cd n=x at *;generalize bt n=y at *;generalize tx n=z at *;obtain ⟨hzz,q0,q1,q2,q3,hb0⟩:=start4r w (.cells #[.int .i64 s,fnV f,fnV f2,fnV f3,fnV f4,fnV f5] 185) (.cells #[.int .i64 m,.int .i64 a,.int .i64 g,.bool p,.bool c,.bool d] 24) (.cells #[.int .i64 k,.string t] 116) (.cells #[.int .i64 0,.int .i64 0,.string ⟨#[]⟩] 258);have HQ:=hide (VdS.mk q0 q1 q2 q3 hb0);clear q0 q1 q2 q3 hb0 hzz;go_enter func202,ntmps202
  go_wp2_with fail
  refine gen_world _ (uh HQ) ?_;clear HQ;rintro q hq;obtain ⟨r0,r1,r2,r3,r4,r5⟩:=row6 hq.r;obtain ⟨c0,c1,c2,c3,c4,c5⟩:=row6 hq.c;obtain ⟨o0,o1,_,_⟩:=row2x hq.o;have HH:=hide hq;clear hq;go_cut [7,8] (fun u v wx=>u=.int .i64 x∧v=.int .i64 y∧VdS w #[.int .i64 s,fnV f,fnV f2,fnV f3,fnV f4,fnV f5] #[.int .i64 m,.int .i64 a,.int .i64 g,.bool p,.bool c,.bool d] #[.int .i64 k,.string t] #[.int .i64 0,.int .i64 0,.string ⟨#[]⟩] wx)
  case first =>
    go_region_held3 (fun z=>z.cell? ⟨w.heap.size,2,none⟩=some (fnV f2)∧z.cell? ⟨w.heap.size+1,0,none⟩=some (.int .i64 m)∧z.cell? ⟨w.heap.size+1,1,none⟩=some (.int .i64 a)∧z.cell? ⟨w.heap.size+1,2,none⟩=some (.int .i64 g)∧z.cell? ⟨w.heap.size+1,3,none⟩=some (.bool p)∧z.cell? ⟨w.heap.size+1,4,none⟩=some (.bool c)∧z.cell? ⟨w.heap.size+1,5,none⟩=some (.bool d)∧z.cell? ⟨w.heap.size+1+1,0,none⟩=some (.int .i64 k)∧z.cell? ⟨w.heap.size+1+1,1,none⟩=some (.string t))
      (first | (exact uh K3) | (exact uh K4) | go_keep)
      (first
      | (go_at_call 135;refine (uh HN _).mono ?_;rintro e w3 ⟨rfl,hb3⟩
         have h3:=(uh HH).drew.step hb3;obtain ⟨_,_,r2,_,_,_⟩:=row6 h3.r;obtain ⟨c0,c1,c2,c3,c4,c5⟩:=row6 h3.c;obtain ⟨o0,o1,_,_⟩:=row2x h3.o;have K3:=hide (And.intro r2 (And.intro c0 (And.intro c1 (And.intro c2 (And.intro c3 (And.intro c4 (And.intro c5 (And.intro o0 o1))))))));have H3:=hide h3;clear h3 hb3 r2 c0 c1 c2 c3 c4 c5 o0 o1)
      | (refine (uh HJ _).mono ?_;rintro e w4 ⟨rfl,hb4⟩
         have h4:=(uh H3).step hb4;obtain ⟨_,_,r2,_,_,_⟩:=row6 h4.r;obtain ⟨c0,c1,c2,c3,c4,c5⟩:=row6 h4.c;obtain ⟨o0,o1,_,_⟩:=row2x h4.o;have K4:=hide (And.intro r2 (And.intro c0 (And.intro c1 (And.intro c2 (And.intro c3 (And.intro c4 (And.intro c5 (And.intro o0 o1))))))));have H4:=hide h4;clear h4 hb4 r2 c0 c1 c2 c3 c4 c5 o0 o1))
    all_goals
      go_wp2_with fail
      go_meet;exact ⟨rfl,rfl,uh H4⟩
  case rest =>
    obtain ⟨hu,hv,hq⟩:=hcut;subst hu hv;clear HH HN HJ hcf r0 r1 r2 r3 r4 r5 c0 c1 c2 c3 c4 c5 o0 o1;obtain ⟨r0,_,_,_,_,_⟩:=row6 hq.r;obtain ⟨o0,o1,_,_⟩:=row2x hq.o;obtain ⟨v0,v1,v2,_,_,_⟩:=row3vd hq.v;have HH:=hide hq;clear hq;cases hx:(x == (3:Int))
    · clear HB
      go_wp2_with fail
      refine (uh HC _).mono ?_;rintro e w3 ⟨rfl,hb3⟩;have h3:=(uh HH).step hb3;obtain ⟨v0,v1,v2,f0,f1,f2⟩:=row3vd h3.v;have H3:=hide h3;clear h3 hb3;go_wp2
      refine bodyPost_ret (v:=.agg #[.int .i64 x,.int .i64 k,.string t]) (by simp [results,results202,asAddr,load3vd (set3_vd (uh H3).v (.int .i64 x) (.int .i64 k) (.string t))]) rfl ⟨by first | rfl | (rw [hx];rfl),?_⟩;exact (((uh H3).b.setCell (p:=⟨w.heap.size+1+1+1,0,none⟩) (by simp;omega) _).setCell (p:=⟨w.heap.size+1+1+1,1,none⟩) (by simp;omega) _).setCell (p:=⟨w.heap.size+1+1+1,2,none⟩) (by simp;omega) _
    · clear HC
      have hne1:¬ (w.heap.size=w.heap.size+1+1+1):=by omega
      have hne2:¬ (w.heap.size+1+1+1=w.heap.size):=by omega
      go_upto_region 3 with fail
      go_region_held3 (fun z=>z.cell? ⟨w.heap.size,0,none⟩=some (.int .i64 s)∧z.cell? ⟨w.heap.size+1+1,0,none⟩=some (.int .i64 k))
        (first | (exact uh K3) | go_keep)
        (first
        | (go_at_call 211;refine (uh HB _).mono ?_;rintro e w3 ⟨rfl,hb3⟩
           have h3:=(uh HH).drew.step hb3;obtain ⟨r0,_,_,_,_,_⟩:=row6 h3.r;obtain ⟨o0,_,_,_⟩:=row2x h3.o;obtain ⟨v0,v1,v2,f0,f1,f2⟩:=row3vd h3.v;have K3:=hide (And.intro r0 o0);have H3:=hide h3;clear h3 hb3))
      all_goals
        go_wp2
        refine bodyPost_ret (v:=.agg #[.int .i64 x,.int .i64 k,.string z]) (by simp [results,results202,asAddr,load3vd (set3_vd (uh H3).v (.int .i64 x) (.int .i64 k) (.string z))]) rfl ⟨by first | rfl | (rw [hx];rfl),?_⟩;exact (((uh H3).b.setCell (p:=⟨w.heap.size+1+1+1,0,none⟩) (by simp;omega) _).setCell (p:=⟨w.heap.size+1+1+1,1,none⟩) (by simp;omega) _).setCell (p:=⟨w.heap.size+1+1+1,2,none⟩) (by simp;omega) _
def codeK (a g:Nat) (p c d:Bool) (k:Int) (n:Nat):Int :=
 if k=1 then gc (within 64 300 n) 3 else if k=2 then gc (((n ||| a:Nat):Int) == (n:Int)) 3 else if k=5 then gc ((n:Int) != 0 && (n:Int) != (g:Int)) 3 else if k=7 then gc p 4 else if k=8 then gc c 4 else gc ((n:Int) == 2 || ((n:Int) == 4 && d)) 3
def textK (m a g:Nat) (k:Int) (n:Nat):ByteArray :=
 if k=1 then put2 m else if k=2 then put4 (n ||| a) else if k=5 then put4 (magic g) else if k=7 then ⟨#[]⟩ else if k=8 then ⟨#[]⟩ else put1 2
def one (m a g:Nat) (p c d:Bool) (o:Op.Opt):Int × Op.Opt :=
 if sizeK o.kind=some o.data.size then (codeK a g p c d o.kind (numOf o.data.data.toList),⟨o.kind,if codeK a g p c d o.kind (numOf o.data.data.toList) == 3 then textK m a g o.kind (numOf o.data.data.toList) else o.data⟩) else (4,o)
def wasIn (k:Int) (l:List Op.Opt):Bool:=l.any fun x=>x.kind == k
def verd (m a g:Nat) (p c d:Bool) (l:List Op.Opt) (o:Op.Opt):Int × Op.Opt:=if wasIn o.kind l=true then (4,o) else one m a g p c d o
def vdAt (m a g:Nat) (p c d:Bool) (l:List Op.Opt) (i:Nat):Int × Op.Opt:=match l[i]? with
 | some o=>verd m a g p c d (l.take i) o
 | none=>(4,⟨0,⟨#[]⟩⟩)
def vdl (m a g:Nat) (p c d:Bool) (l:List Op.Opt) (n:Nat):List (Int × Op.Opt):=(List.range n).map (vdAt m a g p c d l)
theorem vdl_succ (m a g:Nat) (p c d:Bool) (l:List Op.Opt) (n:Nat):vdl m a g p c d l (n+1)=vdl m a g p c d l n ++ [vdAt m a g p c d l n]:=by
 unfold vdl;rw [List.range_succ,List.map_append];rfl
theorem vdl_len (m a g:Nat) (p c d:Bool) (l:List Op.Opt) (n:Nat):(vdl m a g p c d l n).length=n:=by simp [vdl]
theorem vdAt_lt (m a g:Nat) (p c d:Bool) (l:List Op.Opt) (i:Nat) (h:i<l.length):vdAt m a g p c d l i=verd m a g p c d (l.take i) l[i]:=by
 unfold vdAt;rw [List.getElem?_eq_getElem h]
def vcells (l:List (Int × Op.Opt)):List Value:=l.flatMap fun v=>[.int .i64 v.1,.int .i64 v.2.kind,.string v.2.data]
theorem vcells_len (l:List (Int × Op.Opt)):(vcells l).length=l.length*3:=by
 induction l with
 | nil=>rfl
 | cons f fs ih=>simp [vcells] at ih ⊢;omega
theorem vcells_append (l r:List (Int × Op.Opt)):vcells (l ++ r)=vcells l ++ vcells r:=by simp [vcells]
theorem vcells_get (l:List (Int × Op.Opt)) (i:Nat) (v:Int × Op.Opt) (h:l[i]?=some v):(vcells l)[i*3]?=some (.int .i64 v.1)∧(vcells l)[i*3+1]?=some (.int .i64 v.2.kind)∧(vcells l)[i*3+2]?=some (.string v.2.data):=by
 induction l generalizing i with
 | nil=>simp at h
 | cons d fs ih =>
  cases i with
  | zero =>
   simp at h;subst h;exact ⟨rfl,rfl,rfl⟩
  | succ i =>
   have:=ih i (by simpa using h)
   have e:vcells (d :: fs)=.int .i64 d.1 :: .int .i64 d.2.kind :: .string d.2.data :: vcells fs:=rfl;rw [e,show (i+1)*3=i*3+3 by omega];exact this
theorem gc_cases (b:Bool) (x:Int):gc b x=2∨gc b x=x:=by cases b<;>simp [gc]
theorem codeK_cases (a g:Nat) (p c d:Bool) (k:Int) (n:Nat):codeK a g p c d k n=2∨codeK a g p c d k n=3∨codeK a g p c d k n=4:=by
 have h:=fun b x=>gc_cases b x
 unfold codeK;split
 ·rcases h (within 64 300 n) 3 with h | h<;>simp [h]
 split
 ·rcases h (((n ||| a:Nat):Int) == (n:Int)) 3 with h | h<;>simp [h]
 split
 ·rcases h ((n:Int) != 0 && (n:Int) != (g:Int)) 3 with h | h<;>simp [h]
 split
 ·rcases h p 4 with h | h<;>simp [h]
 split
 ·rcases h c 4 with h | h<;>simp [h]
 ·rcases h ((n:Int) == 2 || ((n:Int) == 4 && d)) 3 with h | h<;>simp [h]
theorem jud_row (m a g:Nat) (p c d:Bool) (ha:a<4294967296) (hg:g<4294967296) (k:Int) :
  (∃ s f f2 f3 f4 f5 j bt,sizeK k=some s∧JudR m a g p c d k s f f2 f3 f4 f5 j (codeK a g p c d k) bt (textK m a g k))∨(sizeK k=none∧Instr.findNow (.int .i64) (.int .i64 k) rules.toList 0=some none):=by
 by_cases h1:k=1
 ·subst h1;exact Or.inl ⟨2,_,_,_,_,_,_,fun _=>m,rfl,⟨rfl,cf_of (by kernel_rfl),fun n v _=>judge1 m a g p c d n v,fun n v=>num2 m v⟩⟩
 by_cases h2:k=2
 ·subst h2;exact Or.inl ⟨4,_,_,_,_,_,_,fun n=>n ||| a,rfl,⟨rfl,cf_of (by kernel_rfl),fun n v hn=>judge2 m a g p c d n v ha hn,fun n v=>num4 (n ||| a) v⟩⟩
 by_cases h5:k=5
 ·subst h5;exact Or.inl ⟨4,_,_,_,_,_,_,fun _=>magic g,rfl,⟨rfl,cf_of (by kernel_rfl),fun n v _=>judge5 m a g p c d n v hg,fun n v=>num4 (magic g) v⟩⟩
 by_cases h7:k=7
 ·subst h7;exact Or.inl ⟨0,_,_,_,_,_,_,fun _=>0,rfl,⟨rfl,cf_of (by kernel_rfl),fun n v _=>judge7 m a g p c d n v,fun n v=>num0 0 v⟩⟩
 by_cases h8:k=8
 ·subst h8;exact Or.inl ⟨0,_,_,_,_,_,_,fun _=>0,rfl,⟨rfl,cf_of (by kernel_rfl),fun n v _=>judge8 m a g p c d n v,fun n v=>num0 0 v⟩⟩
 by_cases h9:k=9
 ·subst h9;exact Or.inl ⟨1,_,_,_,_,_,_,fun _=>2,rfl,⟨rfl,cf_of (by kernel_rfl),fun n v _=>judge9 m a g p c d n v,fun n v=>num1 2 v⟩⟩
 ·refine Or.inr ⟨by simp [sizeK,h1,h2,h5,h7,h8,h9],?_⟩;have e1:(k == 1)=false:=beq_eq_false_iff_ne.2 h1;have e2:(k == 2)=false:=beq_eq_false_iff_ne.2 h2;have e5:(k == 5)=false:=beq_eq_false_iff_ne.2 h5;have e7:(k == 7)=false:=beq_eq_false_iff_ne.2 h7;have e8:(k == 8)=false:=beq_eq_false_iff_ne.2 h8;have e9:(k == 9)=false:=beq_eq_false_iff_ne.2 h9;simp [Instr.findNow,rules,Instr.sameNow,e1,e2,e5,e7,e8,e9]
structure VoS (w:World) (cB M A G:Nat) (C ws cur:Array Value) (q:World):Prop where
 c:q.heap[cB]?=some (.cells C 24)
 m:q.heap[M]?=some (.map rules 6)
 a:q.heap[A]?=some (.cells ws 259)
 g:q.heap[G]?=some (.cells cur 258)
 b:Below w.heap.size w q
theorem VoS.step {w:World} {cB M A G:Nat} {C ws cur:Array Value} {q q':World} (h:VoS w cB M A G C ws cur q) (hb:Below q.heap.size q q'):VoS w cB M A G C ws cur q' :=
 ⟨(hb.block _ (ge.1 h.c).1).trans h.c,(hb.block _ (ge.1 h.m).1).trans h.m,(hb.block _ (ge.1 h.a).1).trans h.a,(hb.block _ (ge.1 h.g).1).trans h.g,h.b.trans (hb.mono h.b.size)⟩
theorem VoS.putG {w:World} {cB M A G:Nat} {C ws cur:Array Value} {q:World} (h:VoS w cB M A G C ws cur q) (n1:cB≠G) (n2:M≠G) (n3:A≠G) (n4:w.heap.size≤G) (i0 i1 i2:Nat) (x0 x1 x2:Value) :
  VoS w cB M A G C ws (((cur.setIfInBounds i0 x0).setIfInBounds i1 x1).setIfInBounds i2 x2) (((q.setCell ⟨G,i0,none⟩ x0).setCell ⟨G,i1,none⟩ x1).setCell ⟨G,i2,none⟩ x2):=by
 refine ⟨?_,?_,?_,heap_setCell_same _ _ _ _ _ _ (heap_setCell_same _ _ _ _ _ _ (heap_setCell_same _ _ _ _ _ _ h.g)),((h.b.setCell (p:=⟨G,i0,none⟩) n4 _).setCell (p:=⟨G,i1,none⟩) n4 _).setCell (p:=⟨G,i2,none⟩) n4 _⟩
 ·rw [Below.heap_setCell _ _ _ _ n1,Below.heap_setCell _ _ _ _ n1,Below.heap_setCell _ _ _ _ n1];exact h.c
 ·rw [Below.heap_setCell _ _ _ _ n2,Below.heap_setCell _ _ _ _ n2,Below.heap_setCell _ _ _ _ n2];exact h.m
 ·rw [Below.heap_setCell _ _ _ _ n3,Below.heap_setCell _ _ _ _ n3,Below.heap_setCell _ _ _ _ n3];exact h.a
theorem VoS.putA {w:World} {cB M A G:Nat} {C ws cur:Array Value} {q:World} (h:VoS w cB M A G C ws cur q) (n1:cB≠A) (n2:M≠A) (n3:G≠A) (n4:w.heap.size≤A) (i:Nat) (x:Value) :
  VoS w cB M A G C (ws.setIfInBounds i x) cur (q.setCell ⟨A,i,none⟩ x):=by
 refine ⟨?_,?_,heap_setCell_same _ _ _ _ _ _ h.a,?_,h.b.setCell (p:=⟨A,i,none⟩) n4 _⟩
 ·rw [Below.heap_setCell _ _ _ _ n1];exact h.c
 ·rw [Below.heap_setCell _ _ _ _ n2];exact h.m
 ·rw [Below.heap_setCell _ _ _ _ n3];exact h.g
def Laid (m a g:Nat) (p c d:Bool) (L:List Op.Opt) (i:Nat) (cur:Array Value):Prop:=cur.size=L.length*3∧∀ j,j<i*3→cur[j]?=(vcells (vdl m a g p c d L i))[j]?
def Was (L:List Op.Opt) (i:Nat) (ws:Array Value):Prop:=ws.size=256∧∀ k:Nat,k<256→ws[k]?=some (.bool (wasIn k (L.take i)))
theorem Laid.put {m a g:Nat} {p c d:Bool} {L:List Op.Opt} {i:Nat} {cur:Array Value} (h:Laid m a g p c d L i cur) (hi:i<L.length) (x:Int) (k:Int) (t:ByteArray) (hv:vdAt m a g p c d L i=(x,⟨k,t⟩)) :
  Laid m a g p c d L (i+1) (((cur.setIfInBounds (i*3) (.int .i64 x)).setIfInBounds (i*3+1) (.int .i64 k)).setIfInBounds (i*3+2) (.string t)):=by
 obtain ⟨h1,h2⟩:=h;refine ⟨by simp [h1],fun j hj=>?_⟩;have hs:=vcells_len (vdl m a g p c d L i);rw [vdl_len] at hs;rw [vdl_succ,hv,vcells_append,Array.getElem?_setIfInBounds,Array.getElem?_setIfInBounds,Array.getElem?_setIfInBounds];by_cases j2:i*3+2=j
 ·subst j2;rw [if_pos rfl,if_pos (by simp [h1];omega),List.getElem?_append_right (by omega),hs,show i*3+2 - i*3=2 by omega];rfl
 ·rw [if_neg j2];by_cases j1:i*3+1=j
  ·subst j1;rw [if_pos rfl,if_pos (by simp [h1];omega),List.getElem?_append_right (by omega),hs,show i*3+1 - i*3=1 by omega];rfl
  ·rw [if_neg j1];by_cases j0:i*3=j
   ·subst j0;rw [if_pos rfl,if_pos (by simp [h1];omega),List.getElem?_append_right (by omega),hs,Nat.sub_self];rfl
   ·rw [if_neg j0,List.getElem?_append_left (by omega)];exact h2 j (by omega)
theorem Was.put {L:List Op.Opt} {i:Nat} {ws:Array Value} (h:Was L i ws) (hi:i<L.length) (k:Nat) (hk:k<256) (hL:L[i].kind=(k:Int)):Was L (i+1) (ws.setIfInBounds k (.bool true)):=by
 obtain ⟨h1,h2⟩:=h;refine ⟨by simp [h1],fun j hj=>?_⟩;rw [Array.getElem?_setIfInBounds,List.take_succ_eq_append_getElem hi];unfold wasIn;rw [List.any_append];by_cases e:k=j
 ·subst e;rw [if_pos rfl,if_pos (by omega)];simp [hL]
 ·rw [if_neg e,h2 j hj];have:((k:Int) == (j:Int))=false:=beq_eq_false_iff_ne.2 (by omega)
  simp [wasIn,hL,this]
theorem zero256:Tryz.zeroCells259=(List.replicate 256 (Value.bool false)).toArray:=by kernel_rfl
theorem was_zero (L:List Op.Opt):Was L 0 Tryz.zeroCells259:=by
 rw [zero256];refine ⟨by rw [List.size_toArray,List.length_replicate],fun k hk=>?_⟩;rw [List.getElem?_toArray,List.getElem?_replicate,if_pos hk];rfl
theorem make_v (n:Nat) (hn:n≤20):∃ Mk:Array Value,Mk.size=n*3∧∀ W,(Instr.makeSlice 222 (.int .i64 n) (.int .i64 n)).run prog W=.ok (.slice (some ⟨W.heap.size,0,none⟩) n n) (W.alloc (.cells Mk 258)):=by
 have h:(prog.info? 258).map (fun i=>(i.zero,i.size,i.bytes))=some (some (.agg #[.int .i64 0,.int .i64 0,.string ⟨#[]⟩]),3,32):=by kernel_rfl
 obtain ⟨i,hi,hzz⟩:=Option.map_eq_some_iff.1 h;simp only [Prod.mk.injEq] at hzz;refine ⟨madeCells (Value.agg #[.int .i64 0,.int .i64 0,.string ⟨#[]⟩]).cells (n*3),by rw [size_madeCells],fun W=>?_⟩;have:=run_make (P:=prog) W 222 258 i _ underlying222 hi hzz.1 .i64 .i64 (n:Int) (n:Int) (by omega) (by omega) (by rw [hzz.2.2];omega) (by omega)
 rw [hzz.2.1] at this;simpa using this
def VRow (base:Nat) (l:List (Int × Op.Opt)) (v:Value) (q:World):Prop:=∃ G cur,v=.slice (some ⟨G,0,none⟩) l.length l.length∧base≤G∧q.heap[G]?=some (.cells cur 258)∧cur.size=l.length*3∧∀ j,j<l.length*3→cur[j]?=(vcells l)[j]?
theorem round_fact (m a g:Nat) (p c d:Bool) (ha:a<4294967296) (hg:g<4294967296) (k:Nat) (dt:ByteArray) (L:List Op.Opt) (i:Nat) (hv:vdAt m a g p c d L i=verd m a g p c d (L.take i) ⟨(k:Int),dt⟩) :
  ∃ (x0 x1 x2 x3 x4 x5:Value) (bl:Bool),((∃ s f f2 f3 f4 f5:Nat,x0=.int .i64 s∧x1=fnV f∧x2=fnV f2∧x3=fnV f3∧x4=fnV f4∧x5=fnV f5)∨(x0=.int .i64 0∧x1=.nilFunc∧x2=.nilFunc∧x3=.nilFunc∧x4=.nilFunc∧x5=.nilFunc))∧(∀ (v:World) (M:Nat),v.heap[M]?=some (.map rules 6)→Calls prog 134 #[.map (some M),.agg #[.int .i64 k,.string dt]] v fun e w'=>e=.returned (.tuple #[.agg #[x0,x1,x2,x3,x4,x5],.bool bl])∧Below v.heap.size v w') ∧
   (bl=false→vdAt m a g p c d L i=(4,⟨(k:Int),dt⟩))∧(wasIn k (L.take i)=true→vdAt m a g p c d L i=(4,⟨(k:Int),dt⟩)) ∧
   (bl=true→wasIn k (L.take i)=false→∃ (x:Int) (t:ByteArray),vdAt m a g p c d L i=(x,⟨(k:Int),t⟩)∧∀ v,Calls prog 202 #[.agg #[x0,x1,x2,x3,x4,x5],cfgV m a g p c d,.agg #[.int .i64 k,.string dt]] v fun e w'=>e=.returned (.agg #[.int .i64 x,.int .i64 k,.string t])∧Below v.heap.size v w'):=by
 rw [hv];rcases jud_row m a g p c d ha hg (k:Int) with ⟨s,f,f2,f3,f4,f5,j,bt,hs,hJ⟩ | ⟨hs,hf⟩
 ·refine ⟨_,_,_,_,_,_,((dt.size:Int) == (s:Int)),Or.inl ⟨s,f,f2,f3,f4,f5,rfl,rfl,rfl,rfl,rfl,rfl⟩,fun v M hM=>ruleOf_yes M k dt s f f2 f3 f4 f5 j v hM hJ.fd,?_,?_,?_⟩
  ·intro hb;have hne:=beq_eq_false_iff_ne.1 hb;unfold verd one;split
   ·rfl
   ·rw [if_neg];dsimp only;rw [hs];intro e;cases e;exact hne rfl
  ·intro hw;unfold verd;rw [if_pos hw]
  ·intro hb hw;have he:dt.size=s:=by have:=eq_of_beq hb;omega
   have h4:=sizeK_le hs;refine ⟨_,_,?_,fun v=>verdOf m a g p c d k dt s f f2 f3 f4 f5 j _ bt _ v hJ (by omega)⟩;unfold verd one;rw [if_neg (by rw [hw];decide),if_pos (by dsimp only;rw [hs,he])]
 ·refine ⟨_,_,_,_,_,_,false,Or.inr ⟨rfl,rfl,rfl,rfl,rfl,rfl⟩,fun v M hM=>ruleOf_no M k dt v hM hf,?_,?_,fun hb=>by cases hb⟩
  ·intro _;unfold verd one;split
   ·rfl
   ·rw [if_neg];dsimp only;rw [hs];intro e;cases e
  ·intro hw;unfold verd;rw [if_pos hw]
theorem verdOn (m a g:Nat) (p c d:Bool) (L:List Op.Opt) (ad:Option Addr) (cp:Nat) (w:World) (ha:a<4294967296) (hg:g<4294967296) (hr:Op.right L=true) (hL:HoldsO w (.slice ad L.length cp) L) :
  Calls prog 158 #[cfgV m a g p c d,.slice ad L.length cp] w fun e w'=>∃ v,e=.returned v∧VRow w.heap.size (vdl m a g p c d L L.length) v w'∧Below w.heap.size w w':=by
 have hl20:=Op.right_len hr;obtain ⟨n,hn⟩:∃ n,L.length=n:=⟨_,rfl⟩;rw [hn] at hl20;obtain ⟨Mk,hMs,hmk⟩:=make_v n hl20;have HL:Hid (∀ i (hi:i<n),∃ gL,ad=some ⟨gL,0,none⟩∧gL<w.heap.size∧w.cell? ⟨gL,i*2,none⟩=some (.int .i64 (L[i]'(by omega)).kind)∧w.cell? ⟨gL,i*2+1,none⟩=some (.string (L[i]'(by omega)).data)):=by
  refine hide fun i hi=>?_
  rcases hL with ⟨_,_,_,e⟩ | ⟨gL,cp',cur,e,h2,h3,h4⟩
  ·rw [e] at hn;simp at hn;omega
  ·cases e;have q:=ocells_get L i (L[i]'(by omega)) (List.getElem?_eq_getElem (by omega));exact ⟨gL,rfl,(ge.1 h2).1,by rw [cr h2];exact (h4 _ (by omega)).trans q.1,by rw [cr h2];exact (h4 _ (by omega)).trans q.2⟩
 have HK:Hid (∀ i (hi:i<n),∃ k:Nat,(L[i]'(by omega)).kind=(k:Int)∧1≤k∧k≤255∧(L[i]'(by omega)).data.size≤20):=by
  refine hide fun i hi=>?_
  have:=of_decide_eq_true (Op.right_all hr (L[i]'(by omega)) (List.getElem_mem _))
  exact ⟨(L[i]'(by omega)).kind.toNat,by omega,by omega,by omega,this.2.2⟩
 have HJ:=hide fun k dt i hv=>round_fact m a g p c d ha hg k dt L i hv
 rw [hn];clear hL hr ha hg;go_enter func158,ntmps158
 go_wp2_with fail
 refine (optionRules _).mono ?_;rintro e w2 ⟨rfl,hm2,hb2⟩;have hs0:(w.alloc (.cells #[.int .i64 m,.int .i64 a,.int .i64 g,.bool p,.bool c,.bool d] 24)).heap.size=w.heap.size+1:=by simp
 rw [hs0] at hm2 hb2;rw [hs0];have hc2:=(hb2.block w.heap.size (by omega)).trans (heap_alloc_last w (.cells #[.int .i64 m,.int .i64 a,.int .i64 g,.bool p,.bool c,.bool d] 24));have hB2:=((Below.refl w.heap.size w).alloc (Nat.le_refl _) (.cells #[.int .i64 m,.int .i64 a,.int .i64 g,.bool p,.bool c,.bool d] 24)).trans (hb2.mono (by omega));have hl2:w.heap.size+1<w2.heap.size:=(ge.1 hm2).1;have HS:Hid (VoS w w.heap.size (w.heap.size+1) w2.heap.size (w2.heap.size+1) #[.int .i64 m,.int .i64 a,.int .i64 g,.bool p,.bool c,.bool d] Tryz.zeroCells259 Mk ((w2.alloc (.cells Tryz.zeroCells259 259)).alloc (.cells Mk 258))):=by
  obtain ⟨e1,e2,e3,e4⟩:=start2r w2 (.cells Tryz.zeroCells259 259) (.cells Mk 258);exact hide ⟨(e4.block _ (by omega)).trans hc2,(e4.block _ hl2).trans hm2,e2,e3,hB2.trans (e4.mono hB2.size)⟩
 clear hm2 hb2 hs0 hc2 hB2;go_upto_region 4 with fail
 refine gen_world _ (uh HS) ?_;rintro q0 hq0;have hW0:=was_zero L;have hL0:Laid m a g p c d L 0 Mk:=⟨by rw [hMs,hn],fun j hj=>by omega⟩;generalize Tryz.zeroCells259=Z at *;generalize w2.heap.size=A at *;have HI:=hide (And.intro hq0 (And.intro hW0 hL0));clear HS hmk hMs hq0 hW0 hL0;go_wp2_with fail
 go_loopw [18] (fun y wr=>∃ (i:Nat) (ws cur:Array Value),i≤n∧y=.int .i64 i∧VoS w w.heap.size (w.heap.size+1) A (A+1) #[.int .i64 m,.int .i64 a,.int .i64 g,.bool p,.bool c,.bool d] ws cur wr∧Was L i ws∧Laid m a g p c d L i cur) (fun y _=>n - (intOf y).toNat)
 case atStart=>exact ⟨0,Z,Mk,Nat.zero_le _,rfl,uh HI⟩
 case round =>
  obtain ⟨i,ws,cur,hi,rfl,hV,hW,hD⟩:=hrel;clear HI;by_cases hlt:i<n
  ·have d1:(i:Int)<(n:Int):=by omega
   have hltL:i<L.length:=by omega
   obtain ⟨gL,rfl,hgl,k0,k1⟩:=uh HL i hlt;obtain ⟨k,hk,hk1,hk2,hds⟩:=uh HK i hlt;have HWP:=hide (hW.put hltL k (by omega) hk);have HDP:=hide fun x t hv=>hD.put hltL x (k:Int) t hv
   have HVD:=hide (vdAt_lt m a g p c d L i hltL);have hwk:=hW.2 k (by omega);obtain ⟨y0,hy0⟩:∃ y0,cur[i*3]?=some y0:=⟨_,Array.getElem?_eq_getElem (by rw [hD.1,hn];omega)⟩;obtain ⟨y1,hy1⟩:∃ y1,cur[i*3+1]?=some y1:=⟨_,Array.getElem?_eq_getElem (by rw [hD.1,hn];omega)⟩;obtain ⟨y2,hy2⟩:∃ y2,cur[i*3+2]?=some y2:=⟨_,Array.getElem?_eq_getElem (by rw [hD.1,hn];omega)⟩;replace k0:=(hV.b.cell (p:=⟨gL,i*2,none⟩) hgl).trans k0;replace k1:=(hV.b.cell (p:=⟨gL,i*2+1,none⟩) hgl).trans k1;rw [hk] at k0;generalize hO:L[i]'(by omega)=o at *;obtain ⟨kd,dt⟩:=o;dsimp only at hk k1 hds;subst hk;have HV:=hide hV;have hlA:A+1<wr.heap.size:=(ge.1 hV.g).1;clear hV hW hD HL HK;go_upto_region 7 with fail
   refine gen_world (fun q=>VoS w w.heap.size (w.heap.size+1) A (A+1) #[.int .i64 m,.int .i64 a,.int .i64 g,.bool p,.bool c,.bool d] ws cur q∧q.heap[wr.heap.size]?=some (.cells #[.int .i64 k,.string dt] 116))
    ⟨(uh HV).step ((Below.refl _ _).alloc (Nat.le_refl _) _),heap_alloc_new wr _⟩ ?_
   rintro q1 ⟨hV1,hO1⟩;generalize wr.heap.size=N1 at *;have hl1:N1<q1.heap.size:=(ge.1 hO1).1;have HV1:=hide (And.intro hV1 hO1);obtain ⟨c0,c1,_,_⟩:=row2x hO1;clear hV1 hO1 HV k0 k1;obtain ⟨x0,x1,x2,x3,x4,x5,bl,hSh,hRule,hNo,hWas,hYes⟩:=uh HJ k dt i (uh HVD);have HF:=hide (And.intro hNo (And.intro hWas hYes));clear hNo hWas hYes HVD HJ;go_cut [10,11] (fun u v wx=>∃ N2,u=.pointer (some ⟨N2,0,none⟩)∧v=.bool bl∧VoS w w.heap.size (w.heap.size+1) A (A+1) #[.int .i64 m,.int .i64 a,.int .i64 g,.bool p,.bool c,.bool d] ws cur wx∧wx.heap[N1]?=some (.cells #[.int .i64 k,.string dt] 116)∧wx.heap[N2]?=some (.cells #[x0,x1,x2,x3,x4,x5] 185))
   case first =>
    rcases hSh with ⟨s,f,f2,f3,f4,f5,rfl,rfl,rfl,rfl,rfl,rfl⟩ | ⟨rfl,rfl,rfl,rfl,rfl,rfl⟩
    all_goals
     go_wp2_with fail
     refine (hRule _ _ (uh HV1).1.m).mono ?_;rintro e w3 ⟨rfl,hb3⟩;have HV3:=hide (And.intro ((uh HV1).1.step hb3) ((hb3.block N1 hl1).trans (uh HV1).2));have hl3:N1<w3.heap.size:=Nat.lt_of_lt_of_le hl1 hb3.size;clear hb3 HV1 hl1 hRule c0 c1;go_wp2_with fail
     go_meet;exact ⟨_,rfl,rfl,(uh HV3).1.step ((Below.refl _ _).alloc (Nat.le_refl _) _),(Below.heap_alloc _ _ _ hl3).trans (uh HV3).2,heap_alloc_new w3 _⟩
   case rest =>
   obtain ⟨N2,hu10,hu11,hV4,hO4,hR4⟩:=hcut;subst hu10 hu11;clear hSh hRule HV1 c0 c1 hl1;have HV4:=hide (And.intro hV4 (And.intro hO4 hR4));obtain ⟨c0,c1,_,_⟩:=row2x hO4;obtain ⟨r0,r1,r2,r3,r4,r5⟩:=row6 hR4;obtain ⟨b0,b1,b2,b3,b4,b5⟩:=row6 hV4.c;have a0:wc.cell? ⟨A,k,none⟩=some (.bool (wasIn k (L.take i))):=by rw [cr hV4.a];exact hwk
   clear hV4 hO4 hR4;have hk3:(k:Int)<256:=by omega
   have hk0:(0:Int)≤(k:Int):=by omega
   generalize hwb:wasIn k (L.take i)=wb at *;cases bl
   ·have HVV:=(uh HF).1 rfl;have HD:=hide (uh HDP 4 dt HVV);clear HF HDP HVV;go_wp2_with fail
    refine (sameOpt k dt _ hds).mono ?_;rintro e w5 ⟨rfl,hb5⟩;have h5:=(uh HV4).1.step hb5;have hO5:=(hb5.block N1 (ge.1 (uh HV4).2.1).1).trans (uh HV4).2.1;have g0:w5.cell? ⟨A+1,i*3,none⟩=some y0:=by rw [cr h5.g];exact hy0
    have g1:w5.cell? ⟨A+1,i*3+1,none⟩=some y1:=by rw [cr h5.g];exact hy1
    have g2:w5.cell? ⟨A+1,i*3+2,none⟩=some y2:=by rw [cr h5.g];exact hy2
    have f0:=frz h5.g (i*3);have f1:=frz h5.g (i*3+1);have f2:=frz h5.g (i*3+2);have HV5:=hide (And.intro h5 hO5);clear h5 hO5 hb5 HV4 c0 c1 r0 r1 r2 r3 r4 r5 b0 b1 b2 b3 b4 b5 a0 hwk hy0 hy1 hy2;go_upto_region 11 with fail
    refine gen_world (fun q=>VoS w w.heap.size (w.heap.size+1) A (A+1) #[.int .i64 m,.int .i64 a,.int .i64 g,.bool p,.bool c,.bool d] ws (((cur.setIfInBounds (i*3) (.int .i64 4)).setIfInBounds (i*3+1) (.int .i64 k)).setIfInBounds (i*3+2) (.string dt)) q∧q.heap[N1]?=some (.cells #[.int .i64 k,.string dt] 116))
     ⟨(uh HV5).1.putG (by omega) (by omega) (by omega) (by omega) _ _ _ _ _ _,by
      rw [Below.heap_setCell _ _ _ _ (by simp;omega),Below.heap_setCell _ _ _ _ (by simp;omega),Below.heap_setCell _ _ _ _ (by simp;omega)];exact (uh HV5).2⟩ ?_
    rintro q6 ⟨hV6,hO6⟩;obtain ⟨c0,c1,_,_⟩:=row2x hO6;obtain ⟨y3,hy3⟩:∃ y3,ws[k]?=some y3:=⟨_,Array.getElem?_eq_getElem (by have:=(uh HWP).1;simp at this;omega)⟩;have a0:q6.cell? ⟨A,k,none⟩=some y3:=by rw [cr hV6.a];exact hy3
    have fa:=frz hV6.a k;have HV6:=hide (hV6.putA (by omega) (by omega) (by omega) (by omega) k (.bool true));clear hV6 hO6 HV5 g0 g1 g2 f0 f1 f2 hy3;go_wp2_with fail
    go_roundw
    case rel=>exact ⟨i+1,_,_,by omega,by go_num,uh HV6,uh HWP,uh HD⟩
    case measure=>simp [intOf];omega
   ·cases wb
    ·obtain ⟨x,t',hv,hC⟩:=(uh HF).2.2 rfl rfl;have HD:=hide (uh HDP x t' hv);have HC:=hide hC;clear HF HDP hv hC;go_wp2_with fail
     refine (uh HC _).mono ?_;rintro e w5 ⟨rfl,hb5⟩;have h5:=(uh HV4).1.step hb5;have hO5:=(hb5.block N1 (ge.1 (uh HV4).2.1).1).trans (uh HV4).2.1;have g0:w5.cell? ⟨A+1,i*3,none⟩=some y0:=by rw [cr h5.g];exact hy0
     have g1:w5.cell? ⟨A+1,i*3+1,none⟩=some y1:=by rw [cr h5.g];exact hy1
     have g2:w5.cell? ⟨A+1,i*3+2,none⟩=some y2:=by rw [cr h5.g];exact hy2
     have f0:=frz h5.g (i*3);have f1:=frz h5.g (i*3+1);have f2:=frz h5.g (i*3+2);have HV5:=hide (And.intro h5 hO5);clear h5 hO5 hb5 HV4 c0 c1 r0 r1 r2 r3 r4 r5 b0 b1 b2 b3 b4 b5 a0 hwk hy0 hy1 hy2;go_upto_region 11 with fail
     refine gen_world (fun q=>VoS w w.heap.size (w.heap.size+1) A (A+1) #[.int .i64 m,.int .i64 a,.int .i64 g,.bool p,.bool c,.bool d] ws (((cur.setIfInBounds (i*3) (.int .i64 x)).setIfInBounds (i*3+1) (.int .i64 k)).setIfInBounds (i*3+2) (.string t')) q∧q.heap[N1]?=some (.cells #[.int .i64 k,.string dt] 116))
      ⟨(uh HV5).1.putG (by omega) (by omega) (by omega) (by omega) _ _ _ _ _ _,by
       rw [Below.heap_setCell _ _ _ _ (by simp;omega),Below.heap_setCell _ _ _ _ (by simp;omega),Below.heap_setCell _ _ _ _ (by simp;omega)];exact (uh HV5).2⟩ ?_
     rintro q6 ⟨hV6,hO6⟩;obtain ⟨c0,c1,_,_⟩:=row2x hO6;obtain ⟨y3,hy3⟩:∃ y3,ws[k]?=some y3:=⟨_,Array.getElem?_eq_getElem (by have:=(uh HWP).1;simp at this;omega)⟩;have a0:q6.cell? ⟨A,k,none⟩=some y3:=by rw [cr hV6.a];exact hy3
     have fa:=frz hV6.a k;have HV6:=hide (hV6.putA (by omega) (by omega) (by omega) (by omega) k (.bool true));clear hV6 hO6 HV5 g0 g1 g2 f0 f1 f2 hy3;go_wp2_with fail
     go_roundw
     case rel=>exact ⟨i+1,_,_,by omega,by go_num,uh HV6,uh HWP,uh HD⟩
     case measure=>simp [intOf];omega
    ·have HVV:=(uh HF).2.1 rfl;have HD:=hide (uh HDP 4 dt HVV);clear HF HDP HVV;go_wp2_with fail
     refine (sameOpt k dt _ hds).mono ?_;rintro e w5 ⟨rfl,hb5⟩;have h5:=(uh HV4).1.step hb5;have hO5:=(hb5.block N1 (ge.1 (uh HV4).2.1).1).trans (uh HV4).2.1;have g0:w5.cell? ⟨A+1,i*3,none⟩=some y0:=by rw [cr h5.g];exact hy0
     have g1:w5.cell? ⟨A+1,i*3+1,none⟩=some y1:=by rw [cr h5.g];exact hy1
     have g2:w5.cell? ⟨A+1,i*3+2,none⟩=some y2:=by rw [cr h5.g];exact hy2
     have f0:=frz h5.g (i*3);have f1:=frz h5.g (i*3+1);have f2:=frz h5.g (i*3+2);have HV5:=hide (And.intro h5 hO5);clear h5 hO5 hb5 HV4 c0 c1 r0 r1 r2 r3 r4 r5 b0 b1 b2 b3 b4 b5 a0 hwk hy0 hy1 hy2;go_upto_region 11 with fail
     refine gen_world (fun q=>VoS w w.heap.size (w.heap.size+1) A (A+1) #[.int .i64 m,.int .i64 a,.int .i64 g,.bool p,.bool c,.bool d] ws (((cur.setIfInBounds (i*3) (.int .i64 4)).setIfInBounds (i*3+1) (.int .i64 k)).setIfInBounds (i*3+2) (.string dt)) q∧q.heap[N1]?=some (.cells #[.int .i64 k,.string dt] 116))
      ⟨(uh HV5).1.putG (by omega) (by omega) (by omega) (by omega) _ _ _ _ _ _,by
       rw [Below.heap_setCell _ _ _ _ (by simp;omega),Below.heap_setCell _ _ _ _ (by simp;omega),Below.heap_setCell _ _ _ _ (by simp;omega)];exact (uh HV5).2⟩ ?_
     rintro q6 ⟨hV6,hO6⟩;obtain ⟨c0,c1,_,_⟩:=row2x hO6;obtain ⟨y3,hy3⟩:∃ y3,ws[k]?=some y3:=⟨_,Array.getElem?_eq_getElem (by have:=(uh HWP).1;simp at this;omega)⟩;have a0:q6.cell? ⟨A,k,none⟩=some y3:=by rw [cr hV6.a];exact hy3
     have fa:=frz hV6.a k;have HV6:=hide (hV6.putA (by omega) (by omega) (by omega) (by omega) k (.bool true));clear hV6 hO6 HV5 g0 g1 g2 f0 f1 f2 hy3;go_wp2_with fail
     go_roundw
     case rel=>exact ⟨i+1,_,_,by omega,by go_num,uh HV6,uh HWP,uh HD⟩
     case measure=>simp [intOf];omega
  ·have e:i=n:=by omega
   subst e;have d1:¬ ((i:Int)<(i:Int)):=by omega
   have hlA:=hl2;go_wp2
   go_ret
   exact ⟨_,rfl,⟨A+1,cur,by rw [vdl_len];rfl,by omega,hV.g,by rw [vdl_len,hD.1,hn],fun j hj=>hD.2 j (by rw [vdl_len] at hj;exact hj)⟩,hV.b⟩
theorem append_opt {wr:World} {ops:Array Oper} {rest:List Oper} {o:Oper} {a:Act} {Q:Exit→Act→World→Prop} (hgd:o.guard=none) (s x:Operand)
  (ho:o.op=.call { callee:=.builtin .append,args:=#[s,x],argTypes:=#[25,25] })
  (base:Nat) (v:Value) (F:List Op.Opt) (n:Nat) (hn:F.length=n) (hs:a.eval s=v) (hown:wr.ownsRow base 116 2 v n (ocells F)) (kd:Int) (dt:ByteArray) (hx:a.eval x=.slice (some ⟨wr.heap.size,0,none⟩) 1 1) (hlen:n≤1000) (hbase:base≤wr.heap.size)
  (h:∀ v' w',w'.ownsRow base 116 2 v' (n+1) (ocells (F ++ [⟨kd,dt⟩]))→(wr.alloc (.cells #[.int .i64 kd,.string dt] 116)).grownBy w' v.ownBlock→wpList prog ops Q rest (a.put o.dst v') w'):wpList prog ops Q (o :: rest) a (wr.alloc (.cells #[.int .i64 kd,.string dt] 116)):=by
 obtain ⟨i0,hi0,hz0,hz1,hz2⟩:=oinfo;refine wpList_append_own _ hgd s x 25 ho base 116 i0 _ 2 24 underlying25 hi0 hz0 hz1 hz2 rfl (by decide) v n (ocells F) hs (hown.alloc _) ⟨wr.heap.size,0,none⟩ 1 1 [.int .i64 kd,.string dt] hx rfl ?_ ?_ ?_ ?_ ?_ ?_
 ·intro i u hu;rw [Addr.add_lit,Nat.zero_add,World.cell?_alloc_at _ _ _ _ rfl,← hu];simp
 ·intro u hu;simp only [List.mem_cons,List.not_mem_nil,or_false] at hu;rcases hu with rfl | rfl<;>rfl
 ·unfold maxLen;omega
 ·omega
 ·simp;omega
 ·intro v' w2 hown2 hg2 _;refine h v' w2 ?_ hg2;rw [ocells_append];exact hown2
theorem own_lower {w:World} {base base':Nat} {e:TypeId} {size:Nat} {v:Value} {n:Nat} {xs:List Value} (h:w.ownsRow base e size v n xs) (hb:base'≤base):w.ownsRow base' e size v n xs :=
 ⟨h.1,h.2.imp id fun ⟨g,cap,cur,h1,h2,h3⟩=>⟨g,cap,cur,h1,Nat.le_trans hb h2,h3⟩⟩
theorem implAskYes (m a g:Nat) (p c d:Bool) (w:World) (h:cfgOk m a g=true) :
  Calls prog 237 #[cfgV m a g p c d] w fun e w'=>∃ ad cp,e=.returned (.slice ad (askL m a g p c d 6).length cp)∧w'.ownsRow w.heap.size 116 2 (.slice ad (askL m a g p c d 6).length cp) (askL m a g p c d 6).length (ocells (askL m a g p c d 6))∧Below w.heap.size w w':=by
 have C:=hide fun v=>implCfg m a g p c d v
 rw [h] at C;clear h;go_enter func237,ntmps237
 go_wp2_with fail
 refine (uh C _).mono ?_;rintro e w1 ⟨rfl,hb1⟩;have hr1:=(hb1.block w.heap.size (by simp)).trans (heap_alloc_last w (.cells #[.int .i64 m,.int .i64 a,.int .i64 g,.bool p,.bool c,.bool d] 24));have hB1:=((Below.refl w.heap.size w).alloc (Nat.le_refl _) (.cells #[.int .i64 m,.int .i64 a,.int .i64 g,.bool p,.bool c,.bool d] 24)).trans (hb1.mono (by simp));clear hb1 C;go_wp2_with fail
 refine (optionRules _).mono ?_;rintro e w2 ⟨rfl,hm2,hb2⟩;have hr2:=(hb2.block w.heap.size (ge.1 hr1).1).trans hr1;have hB2:=hB1.trans (hb2.mono hB1.size);have hc1:w.heap.size<w2.heap.size:=(ge.1 hr2).1;have hc2:w1.heap.size<w2.heap.size:=(ge.1 hm2).1;generalize w1.heap.size=M at *;have HR2:=hide hr2;have HM2:=hide hm2;have HB2:=hide hB2;clear hr1 hr2 hm2 hB1 hB2 hb2;go_wp2_with fail
 go_loopw [4,15] (fun x y wr=>∃ (i:Nat) (ad:Option Addr) (cp:Nat),i≤6∧y=.int .i64 i∧x=.slice ad (askL m a g p c d i).length cp∧wr.ownsRow w2.heap.size 116 2 (.slice ad (askL m a g p c d i).length cp) (askL m a g p c d i).length (ocells (askL m a g p c d i))∧Below w2.heap.size w2 wr) (fun _ y _=>6 - (intOf y).toNat)
 case atStart=>exact ⟨0,none,0,by omega,rfl,rfl,⟨rfl,Or.inl ⟨rfl,rfl⟩⟩,Below.refl _ _⟩
 case round =>
  obtain ⟨i,ad,cp,hi,rfl,rfl,ho,hb⟩:=hrel;by_cases hlt:i<6
  ·have d1:(i:Int)<6:=by omega
   obtain ⟨k,s,f,f2,f3,f4,f5,n,j,b,t,hR⟩:=ask_row m a g p c d i hlt;have hix:=hR.ix;have hcf:=hR.cf;have hlk:=look_at wr M rules 6 j k _ ((hb.block M hc2).trans (uh HM2)) hR.fd;have hcr:=(hb.block w.heap.size hc1).trans (uh HR2);obtain ⟨c0,c1,c2,c3,c4,c5⟩:=row6 hcr;have hbs:=hb.size;have HR:=hide hR;have HO:=hide ho;have HB:=hide hb;have hln:=askL_len m a g p c d i;clear hR ho hb c0 c1 c2 c3 c4 c5;go_upto_region 9 with fail
   refine gen_world (fun q=>q.heap[wr.heap.size]?=some (.cells #[.int .i64 s,fnV f,fnV f2,fnV f3,fnV f4,fnV f5] 185)∧q.heap[w.heap.size]?=some (.cells #[.int .i64 m,.int .i64 a,.int .i64 g,.bool p,.bool c,.bool d] 24)∧Below wr.heap.size wr q)
    ⟨heap_alloc_new wr _,(Below.heap_alloc _ _ _ (by omega)).trans hcr,(Below.refl _ _).alloc (Nat.le_refl _) _⟩ ?_
   rintro q ⟨hrq,hcq,hbq⟩;obtain ⟨c0,c1,c2,c3,c4,c5⟩:=row6 hcq;obtain ⟨r0,r1,r2,r3,r4,r5⟩:=row6 hrq;have HQ:=hide (And.intro hrq hbq);clear hcr hcq hrq hbq;go_wp2_with fail
   refine ((uh HR).ask _).mono ?_;rintro e w3 ⟨rfl,hb3⟩;have hR3:=(hb3.block wr.heap.size (ge.1 (uh HQ).1).1).trans (uh HQ).1;have hbw:Below wr.heap.size wr w3:=(uh HQ).2.trans (hb3.mono (uh HQ).2.size);have HO3:=hide (own_same (uh HO) fun q _ hq=>hbw.block q hq);have HB3:=hide ((uh HB).trans (hbw.mono hbs));clear hb3 HO HB r0 r1 r2 r3 r4 r5 HQ;obtain ⟨r0,r1,r2,r3,r4,r5⟩:=row6 hR3;have hbs3:=Nat.le_trans hbs hbw.size;clear hR3 hbw r1 r2 r3 r4 r5 c0 c1 c2 c3 c4 c5 hix hlk hcf;have hls:=(uh HR).lst;have HLS:=hide hls;clear hls;cases b
   ·go_wp2_with fail
    go_roundw
    case rel =>
     refine ⟨i+1,ad,cp,by omega,by go_num,?_,?_,uh HB3⟩
     ·rw [uh HLS,askIf_no,List.append_nil]
     ·rw [uh HLS,askIf_no,List.append_nil];exact uh HO3
    case measure=>simp [intOf];omega
   ·go_wp2_with fail
    refine ((uh HR).num _).mono ?_;rintro e w4 ⟨rfl,hb4⟩;have HO4:=hide (own_same (uh HO3) fun q _ hq=>hb4.block q hq);have HB4:=hide ((uh HB3).trans (hb4.mono hbs3));have hbs4:=Nat.le_trans hbs3 hb4.size;clear hb4 HO3 HB3 r0;go_wp2_with (first | (at_builtin;refine append_opt rfl _ _ rfl w2.heap.size (.slice ad (askL m a g p c d i).length cp) (askL m a g p c d i) (askL m a g p c d i).length rfl rfl (uh HO4) k t rfl (by omega) hbs4 ?_;rintro v6 w6 ho6 hg6;obtain ⟨a6,c6,rfl⟩:=own_form ho6))
    have hb6:Below w2.heap.size w2 w6:=((uh HB4).alloc hbs4 _).grown hg6 (by simp;omega) (fun q hq=>(World.ownsRow.lt (uh HO4) q hq).1);go_roundw
    case rel =>
     have hl1:(askL m a g p c d i).length+1=(askL m a g p c d (i+1)).length:=by rw [uh HLS,askIf_yes,List.length_append];rfl
     refine ⟨i+1,a6,c6,by omega,by go_num,?_,?_,hb6⟩
     ·rw [← hl1]
     ·rw [← hl1,uh HLS,askIf_yes];exact ho6
    case measure=>simp [intOf];omega
  ·have e:i=6:=by omega
   subst e;have d1:¬ (((6:Nat):Int)<6):=by omega
   have hB2:=uh HB2;have ho6:=own_lower ho hB2.size;have hb6:=hB2.trans (hb.mono hB2.size);clear HR2 HM2 HB2;go_wp2
   go_ret
   exact ⟨ad,cp,rfl,ho6,hb6⟩
end Go.Proofs.YtahpjlbaagkdoaaGreatDoor
