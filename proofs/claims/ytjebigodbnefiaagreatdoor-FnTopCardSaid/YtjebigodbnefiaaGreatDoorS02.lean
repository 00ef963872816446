/- Rules AskC Cfg NumH RepNum LnM Row6 VerdC RuleOf LnI Jumps -/
import Derived.Laws.EntriesVeiled
import Derived.Test.YtjebigodbnefiaaGreatDoorS00
set_option maxHeartbeats 4000000
set_option maxRecDepth 100000
namespace Go.Proofs.YtjebigodbnefiaaGreatDoor
open Go.RowKit Go.Proofs.Tryz
abbrev cY (f:Nat):Value:=.func (.func f) #[] #[]
abbrev aZ (k:Int) (a b c d e:Nat):Value:=.agg #[.int .i64 k,cY a,cY b,cY c,cY d,cY e]
theorem gV (w:World) (M:Nat) (es:Array MapEntry) (c:Nat) (k:Int) (v:Value) (hb:w.heap[M]?=some (.map es c)) (hf:Instr.findNow (.int .i64) (.int .i64 k) es.toList 0=some none) :
  ∃ W,(Instr.mapUpdate 50 (.map (some M)) (.int .i64 k) v).run prog w=.ok () W∧W.heap[M]?=some (.map (es.push { key:=.int .i64 k,val:=v,born:=c }) (c+1))∧(∀ B,B≤M→Below B w W):=by
 refine ⟨{ w with heap:=w.heap.setIfInBounds M (.map (es.push { key:=.int .i64 k,val:=v,born:=c }) (c+1)) },?_,(MapKept.heap_set hb).1,fun B hB=>⟨rfl,rfl,rfl,?_,fun g hg=>(MapKept.heap_set hb).2 g (by omega)⟩⟩
 ·unfold Instr.mapUpdate;simp only [Sem.run_bind,run_underlying underlying50,MapKept.run_getObj_map hb,MapKept.run_checkKey underlying2 (d:=.int .i64) (k:=.int .i64 k) (by trivial),MapKept.run_findKey underlying2 hf,Result.andThen];rw [MapKept.run_setObj_map _ hb]
 ·simp
theorem rV (w:World) (M:Nat) (es:Array MapEntry) (c i:Nat) (k:Int) (v:Value) (hb:w.heap[M]?=some (.map es c)) (hf:Instr.findNow (.int .i64) (.int .i64 k) es.toList 0=some (some (i,v))) :
  (Instr.lookup 50 (.map (some M)) (.int .i64 k) false).run prog w=.ok v w:=by
 unfold Instr.lookup;simp only [Sem.run_bind,Sem.run_pure,run_underlying underlying50,MapKept.run_getObj_map hb,MapKept.run_checkKey underlying2 (d:=.int .i64) (k:=.int .i64 k) (by trivial),MapKept.run_findKey underlying2 hf,Result.andThen];rfl
theorem rW (w:World):Calls prog 27 #[] w fun e w'=>e=.returned (aZ 2 43 44 46 47 48)∧Below w.heap.size w w':=by
 go_enter func27,ntmps27
 go_wp2
 refine bodyPost_ret (v:=(aZ 2 43 44 46 47 48)) (by simp [results,results27,go_sem]) rfl ⟨rfl,?_⟩;exact (zC _ _).alloc (zD _) _
theorem py (w:World):Calls prog 28 #[] w fun e w'=>e=.returned (aZ 4 49 50 51 52 53)∧Below w.heap.size w w':=by
 go_enter func28,ntmps28
 go_wp2
 refine bodyPost_ret (v:=(aZ 4 49 50 51 52 53)) (by simp [results,results28,go_sem]) rfl ⟨rfl,?_⟩;exact (zC _ _).alloc (zD _) _
theorem oA (w:World):Calls prog 29 #[] w fun e w'=>e=.returned (aZ 4 54 55 57 58 59)∧Below w.heap.size w w':=by
 go_enter func29,ntmps29
 go_wp2
 refine bodyPost_ret (v:=(aZ 4 54 55 57 58 59)) (by simp [results,results29,go_sem]) rfl ⟨rfl,?_⟩;exact (zC _ _).alloc (zD _) _
theorem rX (w:World):Calls prog 30 #[] w fun e w'=>e=.returned (aZ 0 60 61 62 63 64)∧Below w.heap.size w w':=by
 go_enter func30,ntmps30
 go_wp2
 refine bodyPost_ret (v:=(aZ 0 60 61 62 63 64)) (by simp [results,results30,go_sem]) rfl ⟨rfl,?_⟩;exact (zC _ _).alloc (zD _) _
theorem pz (w:World):Calls prog 31 #[] w fun e w'=>e=.returned (aZ 0 65 66 67 68 69)∧Below w.heap.size w w':=by
 go_enter func31,ntmps31
 go_wp2
 refine bodyPost_ret (v:=(aZ 0 65 66 67 68 69)) (by simp [results,results31,go_sem]) rfl ⟨rfl,?_⟩;exact (zC _ _).alloc (zD _) _
theorem rY (w:World):Calls prog 32 #[] w fun e w'=>e=.returned (aZ 1 70 71 72 73 74)∧Below w.heap.size w w':=by
 go_enter func32,ntmps32
 go_wp2
 refine bodyPost_ret (v:=(aZ 1 70 71 72 73 74)) (by simp [results,results32,go_sem]) rfl ⟨rfl,?_⟩;exact (zC _ _).alloc (zD _) _
def cI:Array MapEntry:=#[{ key:=.int .i64 1,val:=(aZ 2 43 44 46 47 48),born:=0 },{ key:=.int .i64 2,val:=(aZ 4 49 50 51 52 53),born:=1 },{ key:=.int .i64 5,val:=(aZ 4 54 55 57 58 59),born:=2 },{ key:=.int .i64 7,val:=(aZ 0 60 61 62 63 64),born:=3 },{ key:=.int .i64 8,val:=(aZ 0 65 66 67 68 69),born:=4 },{ key:=.int .i64 9,val:=(aZ 1 70 71 72 73 74),born:=5 }]
theorem dF (w:World):Calls prog 17 #[] w fun e w'=>e=.returned (.map (some w.heap.size))∧w'.heap[w.heap.size]?=some (.map cI 6)∧Below w.heap.size w w':=by
 have hmm:=@run_makeMap prog;have hb0:=(zC w.heap.size w).alloc (zD _) (.map #[] 0);have hm0:(w.alloc (.map #[] 0)).heap[w.heap.size]?=some (.map #[] 0):=heap_alloc_last w _;have hl0:(w.alloc (.map #[] 0)).heap.size=w.heap.size+1:=by simp
 go_enter func17,ntmps17
 go_wp2_with fail
 refine (rW _).mono ?_;rintro e v1 ⟨rfl,hc1⟩;have hn1:=(hc1.block w.heap.size (ge.1 hm0).1).trans hm0;have hd1:=hb0.trans (hc1.mono hb0.size);obtain ⟨w1,hp1,hm1,hq1⟩:=gV v1 w.heap.size #[] 0 1 (aZ 2 43 44 46 47 48) hn1 rfl;have hb1:=hd1.trans (hq1 _ (zD _));simp only [List.push_toArray,List.nil_append] at hm1;clear hc1 hn1 hd1 hq1 hb0 hm0;go_wp2_with fail
 refine (py _).mono ?_;rintro e v2 ⟨rfl,hc2⟩;have hn2:=(hc2.block w.heap.size (ge.1 hm1).1).trans hm1;have hd2:=hb1.trans (hc2.mono hb1.size);obtain ⟨w2,hp2,hm2,hq2⟩:=gV v2 w.heap.size #[{ key:=.int .i64 1,val:=(aZ 2 43 44 46 47 48),born:=0 }] 1 2 (aZ 4 49 50 51 52 53) hn2 rfl;have hb2:=hd2.trans (hq2 _ (zD _));simp only [List.push_toArray,List.cons_append,List.nil_append] at hm2;clear hc2 hn2 hd2 hq2 hb1 hm1;go_wp2_with fail
 refine (oA _).mono ?_;rintro e v3 ⟨rfl,hc3⟩;have hn3:=(hc3.block w.heap.size (ge.1 hm2).1).trans hm2;have hd3:=hb2.trans (hc3.mono hb2.size);obtain ⟨w3,hp3,hm3,hq3⟩:=gV v3 w.heap.size #[{ key:=.int .i64 1,val:=(aZ 2 43 44 46 47 48),born:=0 },{ key:=.int .i64 2,val:=(aZ 4 49 50 51 52 53),born:=1 }] 2 5 (aZ 4 54 55 57 58 59) hn3 rfl;have hb3:=hd3.trans (hq3 _ (zD _));simp only [List.push_toArray,List.cons_append,List.nil_append] at hm3;clear hc3 hn3 hd3 hq3 hb2 hm2;go_wp2_with fail
 refine (rX _).mono ?_;rintro e v4 ⟨rfl,hc4⟩;have hn4:=(hc4.block w.heap.size (ge.1 hm3).1).trans hm3;have hd4:=hb3.trans (hc4.mono hb3.size);obtain ⟨w4,hp4,hm4,hq4⟩:=gV v4 w.heap.size #[{ key:=.int .i64 1,val:=(aZ 2 43 44 46 47 48),born:=0 },{ key:=.int .i64 2,val:=(aZ 4 49 50 51 52 53),born:=1 },{ key:=.int .i64 5,val:=(aZ 4 54 55 57 58 59),born:=2 }] 3 7 (aZ 0 60 61 62 63 64) hn4 rfl;have hb4:=hd4.trans (hq4 _ (zD _));simp only [List.push_toArray,List.cons_append,List.nil_append] at hm4;clear hc4 hn4 hd4 hq4 hb3 hm3;go_wp2_with fail
 refine (pz _).mono ?_;rintro e v5 ⟨rfl,hc5⟩;have hn5:=(hc5.block w.heap.size (ge.1 hm4).1).trans hm4;have hd5:=hb4.trans (hc5.mono hb4.size);obtain ⟨w5,hp5,hm5,hq5⟩:=gV v5 w.heap.size #[{ key:=.int .i64 1,val:=(aZ 2 43 44 46 47 48),born:=0 },{ key:=.int .i64 2,val:=(aZ 4 49 50 51 52 53),born:=1 },{ key:=.int .i64 5,val:=(aZ 4 54 55 57 58 59),born:=2 },{ key:=.int .i64 7,val:=(aZ 0 60 61 62 63 64),born:=3 }] 4 8 (aZ 0 65 66 67 68 69) hn5 rfl;have hb5:=hd5.trans (hq5 _ (zD _));simp only [List.push_toArray,List.cons_append,List.nil_append] at hm5;clear hc5 hn5 hd5 hq5 hb4 hm4;go_wp2_with fail
 refine (rY _).mono ?_;rintro e v6 ⟨rfl,hc6⟩;have hn6:=(hc6.block w.heap.size (ge.1 hm5).1).trans hm5;have hd6:=hb5.trans (hc6.mono hb5.size);obtain ⟨w6,hp6,hm6,hq6⟩:=gV v6 w.heap.size #[{ key:=.int .i64 1,val:=(aZ 2 43 44 46 47 48),born:=0 },{ key:=.int .i64 2,val:=(aZ 4 49 50 51 52 53),born:=1 },{ key:=.int .i64 5,val:=(aZ 4 54 55 57 58 59),born:=2 },{ key:=.int .i64 7,val:=(aZ 0 60 61 62 63 64),born:=3 },{ key:=.int .i64 8,val:=(aZ 0 65 66 67 68 69),born:=4 }] 5 9 (aZ 1 70 71 72 73 74) hn6 rfl;have hb6:=hd6.trans (hq6 _ (zD _));simp only [List.push_toArray,List.cons_append,List.nil_append] at hm6;clear hc6 hn6 hd6 hq6 hb5 hm5;go_wp2
 go_ret
 exact ⟨rfl,hm6,hb6⟩
theorem aH {n:Nat} {w W:World} (h:Below n w W) (k:Nat):Below n w (W.drewN k):=⟨h.os,h.tape,h.output,h.size,h.block⟩
abbrev cN (m a g:Int) (p c d:Bool):Value:=.agg #[.int .i64 m,.int .i64 a,.int .i64 g,.bool p,.bool c,.bool d]
theorem bM {f : Nat} (h : (prog.funcs[f]?).map (fun fn => (fn.name == "runtime.NumGoroutine") || fn.body.isNone) = some false) (args : Array Value) (W : World) : (callFunc f args).run prog W = .ok (.enter f args) W := by
 obtain ⟨fn,hf,h2⟩:=Option.map_eq_some_iff.1 h;rw [Bool.or_eq_false_iff] at h2;unfold callFunc;have h3 : ¬ (fn.name = "runtime.NumGoroutine") := beq_eq_false_iff_ne.1 h2.1
 have h4:¬ (fn.body=none):=fun e=>by rw [e] at h2;exact absurd h2.2 (by decide)
 simp [go_sem,hf,h3,h4]
def al (lo hi x:Int):Bool:=decide (lo≤x) && decide (x≤hi)
def aK (m a g:Int):Bool:=al 64 300 m && (al 0 4294967295 a && al 0 4294967295 g)
theorem iY (x:Int) (w:World):Calls prog 26 #[.int .i64 x] w fun e w'=>e=.returned (.bool (al 64 300 x))∧w'=w:=by
 by_cases h1:64≤x
 ·have d1:decide ((64:Int)≤x)=true:=decide_eq_true h1;by_cases h2:x≤300
  ·have d2:decide (x≤300)=true:=decide_eq_true h2;rw [show al 64 300 x=true by simp [al,h1,h2]];go_enter func26,ntmps26
   go_wp2
   go_ret
   exact ⟨rfl,rfl⟩
  ·have d2:decide (x≤300)=false:=decide_eq_false h2;rw [show al 64 300 x=false by simp [al,h2]];go_enter func26,ntmps26
   go_wp2
   go_ret
   exact ⟨rfl,rfl⟩
 ·have d1:decide ((64:Int)≤x)=false:=decide_eq_false h1;rw [show al 64 300 x=false by simp [al,h1]];go_enter func26,ntmps26
  go_wp2
  go_ret
  exact ⟨rfl,rfl⟩
theorem pA (x:Int) (w:World):Calls prog 19 #[.int .i64 x] w fun e w'=>e=.returned (.bool (al 0 4294967295 x))∧w'=w:=by
 by_cases h1:0≤x
 ·have d1:decide ((0:Int)≤x)=true:=decide_eq_true h1;by_cases h2:x≤4294967295
  ·have d2:decide (x≤4294967295)=true:=decide_eq_true h2;rw [show al 0 4294967295 x=true by simp [al,h1,h2]];go_enter func19,ntmps19
   go_wp2
   go_ret
   exact ⟨rfl,rfl⟩
  ·have d2:decide (x≤4294967295)=false:=decide_eq_false h2;rw [show al 0 4294967295 x=false by simp [al,h2]];go_enter func19,ntmps19
   go_wp2
   go_ret
   exact ⟨rfl,rfl⟩
 ·have d1:decide ((0:Int)≤x)=false:=decide_eq_false h1;rw [show al 0 4294967295 x=false by simp [al,h1]];go_enter func19,ntmps19
  go_wp2
  go_ret
  exact ⟨rfl,rfl⟩
theorem pB (m a g:Int) (h1:al 64 300 m=true) (h2:al 0 4294967295 a=true):aK m a g=al 0 4294967295 g:=by
 unfold aK;rw [h1,h2,Bool.true_and,Bool.true_and]
theorem dm (m a g:Int) (p c d:Bool) (w:World):Calls prog 16 #[.agg #[.int .i64 m,.int .i64 a,.int .i64 g,.bool p,.bool c,.bool d]] w fun e w'=>e=.returned (.bool (aK m a g))∧Below w.heap.size w w':=by
 have C1:=aa fun v=>iY m v
 have C2:=aa fun v=>pA a v
 by_cases h1:al 64 300 m=true
 ·by_cases h2:al 0 4294967295 a=true
  ·rw [pB m a g h1 h2];rw [h1] at C1;rw [h2] at C2;by_cases h3:0≤g
   ·have d1:decide ((0:Int)≤g)=true:=decide_eq_true h3;by_cases h4:g≤4294967295
    ·have d2:decide (g≤4294967295)=true:=decide_eq_true h4;rw [show al 0 4294967295 g=true by simp [al,h3,h4]];go_enter func16,ntmps16
     go_wp2_with (first
      | (go_at_call 26;refine (uh C1 _).mono ?_;rintro e w1 ⟨rfl,rfl⟩)
      | (go_at_call 19;refine (uh C2 _).mono ?_;rintro e w2 ⟨rfl,rfl⟩))
     go_ret
     exact ⟨rfl,(zC _ _).alloc (zD _) _⟩
    ·have d2:decide (g≤4294967295)=false:=decide_eq_false h4;rw [show al 0 4294967295 g=false by simp [al,h4]];go_enter func16,ntmps16
     go_wp2_with (first
      | (go_at_call 26;refine (uh C1 _).mono ?_;rintro e w1 ⟨rfl,rfl⟩)
      | (go_at_call 19;refine (uh C2 _).mono ?_;rintro e w2 ⟨rfl,rfl⟩))
     go_ret
     exact ⟨rfl,(zC _ _).alloc (zD _) _⟩
   ·have d1:decide ((0:Int)≤g)=false:=decide_eq_false h3;rw [show al 0 4294967295 g=false by simp [al,h3]];go_enter func16,ntmps16
    go_wp2_with (first
     | (go_at_call 26;refine (uh C1 _).mono ?_;rintro e w1 ⟨rfl,rfl⟩)
     | (go_at_call 19;refine (uh C2 _).mono ?_;rintro e w2 ⟨rfl,rfl⟩))
    go_ret
    exact ⟨rfl,(zC _ _).alloc (zD _) _⟩
  ·rw [Bool.not_eq_true] at h2;rw [show aK m a g=false by simp [aK,h2]];rw [h1] at C1;rw [h2] at C2;go_enter func16,ntmps16
   go_wp2_with (first
    | (go_at_call 26;refine (uh C1 _).mono ?_;rintro e w1 ⟨rfl,rfl⟩)
    | (go_at_call 19;refine (uh C2 _).mono ?_;rintro e w2 ⟨rfl,rfl⟩))
   go_ret
   exact ⟨rfl,(zC _ _).alloc (zD _) _⟩
 ·rw [Bool.not_eq_true] at h1;rw [show aK m a g=false by simp [aK,h1]];rw [h1] at C1;clear C2;go_enter func16,ntmps16
  go_wp2_with (first
   | (go_at_call 26;refine (uh C1 _).mono ?_;rintro e w1 ⟨rfl,rfl⟩))
  go_ret
  exact ⟨rfl,(zC _ _).alloc (zD _) _⟩
theorem pC (l:List UInt8) (n:Nat):l.foldl (fun n c=>256*n+c.toNat) n<(n+1)*256 ^ l.length:=by
 induction l generalizing n with
 | nil=>simp
 | cons c l ih =>
  have h:=ih (256*n+c.toNat);have hc:=c.toNat_lt;rw [List.foldl_cons,List.length_cons,Nat.pow_succ,Nat.mul_comm (256 ^ l.length) 256,← Nat.mul_assoc];exact Nat.lt_of_lt_of_le h (Nat.mul_le_mul_right _ (by omega))
theorem kX (l:List UInt8):ax l<256 ^ l.length:=by
 have:=pC l 0
 rw [Nat.zero_add,Nat.one_mul] at this;exact this
theorem jN (l:List UInt8) (h:l.length<4):ax l<16777216:=by
 have h1:=kX l;have h2:256 ^ l.length≤256 ^ 3:=Nat.pow_le_pow_right (by decide) (by omega);omega
theorem eM (l:List UInt8) (h:l.length≤4):ax l<4294967296:=by
 have h1:=kX l;have h2:256 ^ l.length≤256 ^ 4:=Nat.pow_le_pow_right (by decide) h;omega
theorem yn (a b:Nat) (ha:a<16777216) (hb:b<256):bits .or .i64 ((a:Int)*256) (b:Int)=((256*a+b:Nat):Int):=by
 have h1:a*256 ||| b=a*2 ^ 8+b:=by
  rw [Nat.mul_comm,show (256:Nat)=2 ^ 8 from rfl,← Nat.two_pow_add_eq_or_of_lt (by omega),Nat.mul_comm]
 show IntKind.i64.wrap ((BitVec.ofInt 64 ((a:Int)*256) ||| BitVec.ofInt 64 (b:Int)).toNat:Int)=_
 rw [show (a:Int)*256=((a*256:Nat):Int) by omega,BitVec.toNat_or,ofInt_u64 (a*256) (by omega),ofInt_u64 b (by omega),h1,IntKind.wrap_i64];omega
theorem iZ (a b:Nat) (ha:a<4294967296) (hb:b<4294967296):bits .or .i64 (a:Int) (b:Int)=((a ||| b:Nat):Int):=by
 have h3:a ||| b<2 ^ 32:=Nat.or_lt_two_pow (by omega) (by omega)
 show IntKind.i64.wrap ((BitVec.ofInt 64 (a:Int) ||| BitVec.ofInt 64 (b:Int)).toNat:Int)=_
 rw [BitVec.toNat_or,ofInt_u64 a (by omega),ofInt_u64 b (by omega),IntKind.wrap_i64];omega
theorem i6 (l:List UInt8) (k:Nat) (hlt:k<l.length):ax (l.take (k+1))=256*ax (l.take k)+l[k].toNat:=by
 unfold ax;rw [List.take_succ_eq_append_getElem hlt,List.foldl_append];rfl
theorem pD (B off cap:Nat) (l:List UInt8) (w:World) (hl4:l.length≤4) (hl:Lies w B off l) :
  Calls prog 202 #[.slice (some ⟨B,off,none⟩) l.length cap] w fun e w'=>e=.returned (.int .i64 (ax l:Nat))∧w'=w:=by
 go_enter func202,ntmps202
 go_wp2
 go_loop [3,8] (fun n i=>∃ (k:Nat),k≤l.length∧i=.int .i64 k∧n=.int .i64 (ax (l.take k):Nat)) (fun _ i=>l.length - (intOf i).toNat)
 case atStart=>exact ⟨0,Nat.zero_le _,rfl,rfl⟩
 case round =>
  obtain ⟨k,hk,rfl,rfl⟩:=hrel;by_cases hlt:k<l.length
  ·have hc:=hl k hlt;have HS:=aa (i6 l k hlt);have hn:ax (l.take k)<16777216:=jN _ (by rw [List.length_take];omega);have ho:=yn (ax (l.take k)) l[k].toNat hn l[k].toNat_lt;have HW:Hid (wrap64 (l[k].toNat:Int)=(l[k].toNat:Int)):=aa (by have:=l[k].toNat_lt;unfold wrap64;omega);generalize ax (l.take k)=n at *;have d1:(k:Int)<(l.length:Int):=by omega
   clear hl;go_wp2
   go_round
   case rel=>exact ⟨k+1,by omega,by go_num,by rw [uh HW,ho,uh HS]⟩
   case measure=>simp [intOf];omega
  ·have HK:=aa (List.take_of_length_le (l:=l) (i:=k) (by omega));have d1:¬ ((k:Int)<(l.length:Int)):=by omega
   go_wp2
   go_ret
   exact ⟨by rw [uh HK];rfl,rfl⟩
theorem i7 (k:Int) (t:ByteArray) (w:World) (ht:t.size≤4) :
  Calls prog 189 #[.agg #[.int .i64 k,.string t]] w fun e w'=>e=.returned (.int .i64 (ax t.data.toList:Nat))∧Below w.heap.size w w':=by
 have hq:∃ q,w.alloc (.cells #[.int .i64 k,.string t] 27)=q:=⟨_,rfl⟩;obtain ⟨q,hq⟩:=hq;obtain ⟨cap,W',hcv,hcap,hli,hb,hs⟩:=kT t q;have C:=aa (pD q.heap.size 0 cap t.data.toList W' (by rw [bC];exact ht) hli);subst hq;have HB:Hid (Below w.heap.size w W'):=aa (((zC _ _).alloc (zD _) _).trans (hb.mono (by simp)));have hs0:(w.alloc (.cells #[.int .i64 k,.string t] 27)).heap.size=w.heap.size+1:=by simp
 rw [hs0] at hcv C;clear hb hs hli hcap hs0;go_enter func189,ntmps189
 go_wp2_with fail
 refine (uh C).mono ?_;rintro e w2 ⟨rfl,rfl⟩;go_wp2
 go_ret
 exact ⟨rfl,uh HB⟩
structure Ln where
 m:Nat
 a:Nat
 p:Bool
 c:Bool
 d:Bool
abbrev gR (x:Ln):Array Value:=#[.int .i64 x.m,.int .i64 x.a,.bool x.p,.bool x.c,.bool x.d]
def gT (k:Int) (x:Ln) (n:Nat):Ln :=
 if k=1 then (if al 64 300 (n:Int)=true then { x with m:=n } else x) else if k=2 then { x with a:=n } else if k=7 then { x with p:=true } else if k=8 then { x with c:=true } else if k=9 then { x with d:=x.d || ((n:Int) == 4) } else x
def nw (x:Ln) (o:Op.Opt):Ln:=if bN o.kind=some o.data.size then gT o.kind x (ax o.data.data.toList) else x
def ep (F:List Op.Opt):Ln:=F.foldl nw ⟨300,4294967295,false,false,false⟩
def aQ (F:List Op.Opt):Ln:=if Op.right F=true then ep F else ⟨0,0,false,false,false⟩
theorem i_ (F:List Op.Opt) (i:Nat) (hi:i<F.length):ep (F.take (i+1))=nw (ep (F.take i)) F[i]:=by
 unfold ep;rw [List.take_succ_eq_append_getElem hi,List.foldl_append];rfl
theorem vQ (x:Ln) (n:Nat) (w:World):Calls prog 48 #[.agg (gR x),.int .i64 n] w fun e w'=>e=.returned (.agg (gR (gT 1 x n)))∧Below w.heap.size w w':=by
 have C:=aa fun v=>iY (n:Int) v
 obtain ⟨m,a,p,c,d⟩:=x;unfold gT;rw [if_pos rfl];cases hq:al 64 300 (n:Int)
 ·rw [if_neg (by decide)];rw [hq] at C;unfold gR;dsimp only;go_enter func48,ntmps48
  go_wp2_with (first | (go_at_call 26;refine (uh C _).mono ?_;rintro e w1 ⟨rfl,rfl⟩))
  exact bodyPost_ret (v:=.agg #[.int .i64 m,.int .i64 a,.bool p,.bool c,.bool d]) (by simp [results,results48,go_sem]) rfl ⟨rfl,((zC _ _).alloc (zD _) _).alloc (by simp) _⟩
 ·rw [if_pos rfl];rw [hq] at C;unfold gR;dsimp only;go_enter func48,ntmps48
  go_wp2_with (first | (go_at_call 26;refine (uh C _).mono ?_;rintro e w1 ⟨rfl,rfl⟩))
  exact bodyPost_ret (v:=.agg #[.int .i64 n,.int .i64 a,.bool p,.bool c,.bool d]) (by simp [results,results48,go_sem]) rfl ⟨rfl,((zC _ _).alloc (zD _) _).alloc (by simp) _⟩
theorem vR (x:Ln) (n:Nat) (w:World):Calls prog 53 #[.agg (gR x),.int .i64 n] w fun e w'=>e=.returned (.agg (gR (gT 2 x n)))∧Below w.heap.size w w':=by
 obtain ⟨m,a,p,c,d⟩:=x;show Calls prog 53 #[.agg #[.int .i64 m,.int .i64 a,.bool p,.bool c,.bool d],.int .i64 n] w fun e w'=>e=.returned (.agg #[.int .i64 m,.int .i64 n,.bool p,.bool c,.bool d])∧Below w.heap.size w w'
 go_enter func53,ntmps53
 go_wp2
 exact bodyPost_ret (v:=.agg #[.int .i64 m,.int .i64 n,.bool p,.bool c,.bool d]) (by simp [results,results53,go_sem]) rfl ⟨rfl,((zC _ _).alloc (zD _) _).alloc (by simp) _⟩
theorem vS (x:Ln) (n:Nat) (w:World):Calls prog 59 #[.agg (gR x),.int .i64 n] w fun e w'=>e=.returned (.agg (gR (gT 5 x n)))∧Below w.heap.size w w':=by
 obtain ⟨m,a,p,c,d⟩:=x;show Calls prog 59 #[.agg #[.int .i64 m,.int .i64 a,.bool p,.bool c,.bool d],.int .i64 n] w fun e w'=>e=.returned (.agg #[.int .i64 m,.int .i64 a,.bool p,.bool c,.bool d])∧Below w.heap.size w w'
 go_enter func59,ntmps59
 go_wp2
 exact bodyPost_ret (v:=.agg #[.int .i64 m,.int .i64 a,.bool p,.bool c,.bool d]) (by simp [results,results59,go_sem]) rfl ⟨rfl,((zC _ _).alloc (zD _) _).alloc (by simp) _⟩
theorem vT (x:Ln) (n:Nat) (w:World):Calls prog 64 #[.agg (gR x),.int .i64 n] w fun e w'=>e=.returned (.agg (gR (gT 7 x n)))∧Below w.heap.size w w':=by
 obtain ⟨m,a,p,c,d⟩:=x;show Calls prog 64 #[.agg #[.int .i64 m,.int .i64 a,.bool p,.bool c,.bool d],.int .i64 n] w fun e w'=>e=.returned (.agg #[.int .i64 m,.int .i64 a,.bool true,.bool c,.bool d])∧Below w.heap.size w w'
 go_enter func64,ntmps64
 go_wp2
 exact bodyPost_ret (v:=.agg #[.int .i64 m,.int .i64 a,.bool true,.bool c,.bool d]) (by simp [results,results64,go_sem]) rfl ⟨rfl,((zC _ _).alloc (zD _) _).alloc (by simp) _⟩
theorem vU (x:Ln) (n:Nat) (w:World):Calls prog 69 #[.agg (gR x),.int .i64 n] w fun e w'=>e=.returned (.agg (gR (gT 8 x n)))∧Below w.heap.size w w':=by
 obtain ⟨m,a,p,c,d⟩:=x;show Calls prog 69 #[.agg #[.int .i64 m,.int .i64 a,.bool p,.bool c,.bool d],.int .i64 n] w fun e w'=>e=.returned (.agg #[.int .i64 m,.int .i64 a,.bool p,.bool true,.bool d])∧Below w.heap.size w w'
 go_enter func69,ntmps69
 go_wp2
 exact bodyPost_ret (v:=.agg #[.int .i64 m,.int .i64 a,.bool p,.bool true,.bool d]) (by simp [results,results69,go_sem]) rfl ⟨rfl,((zC _ _).alloc (zD _) _).alloc (by simp) _⟩
theorem vV (x:Ln) (n:Nat) (w:World):Calls prog 74 #[.agg (gR x),.int .i64 n] w fun e w'=>e=.returned (.agg (gR (gT 9 x n)))∧Below w.heap.size w w':=by
 obtain ⟨m,a,p,c,d⟩:=x;cases d
 ·show Calls prog 74 #[.agg #[.int .i64 m,.int .i64 a,.bool p,.bool c,.bool false],.int .i64 n] w fun e w'=>e=.returned (.agg #[.int .i64 m,.int .i64 a,.bool p,.bool c,.bool ((n:Int) == 4)])∧Below w.heap.size w w'
  go_enter func74,ntmps74
  go_wp2
  exact bodyPost_ret (v:=.agg #[.int .i64 m,.int .i64 a,.bool p,.bool c,.bool ((n:Int) == 4)]) (by simp [results,results74,go_sem]) rfl ⟨rfl,((zC _ _).alloc (zD _) _).alloc (by simp) _⟩
 ·show Calls prog 74 #[.agg #[.int .i64 m,.int .i64 a,.bool p,.bool c,.bool true],.int .i64 n] w fun e w'=>e=.returned (.agg #[.int .i64 m,.int .i64 a,.bool p,.bool c,.bool true])∧Below w.heap.size w w'
  go_enter func74,ntmps74
  go_wp2
  exact bodyPost_ret (v:=.agg #[.int .i64 m,.int .i64 a,.bool p,.bool c,.bool true]) (by simp [results,results74,go_sem]) rfl ⟨rfl,((zC _ _).alloc (zD _) _).alloc (by simp) _⟩
structure LnR (k:Int) (s f f2 f3 f4 f5 j:Nat):Prop where
 fd:Instr.findNow (.int .i64) (.int .i64 k) cI.toList 0=some (some (j,aZ s f f2 f3 f4 f5))
 cf:∀ args W,(callFunc f5 args).run prog W=.ok (.enter f5 args) W
 ln:∀ (x:Ln) (n:Nat) v,Calls prog f5 #[.agg (gR x),.int .i64 n] v fun e w'=>e=.returned (.agg (gR (gT k x n)))∧Below v.heap.size v w'
theorem ur (k:Int):(∃ s f f2 f3 f4 f5 j,bN k=some s∧LnR k s f f2 f3 f4 f5 j)∨(bN k=none∧Instr.findNow (.int .i64) (.int .i64 k) cI.toList 0=some none):=by
 by_cases h1:k=1
 ·subst h1;exact Or.inl ⟨2,_,_,_,_,_,_,rfl,⟨rfl,bM (by kernel_rfl),fun x n v=>vQ x n v⟩⟩
 by_cases h2:k=2
 ·subst h2;exact Or.inl ⟨4,_,_,_,_,_,_,rfl,⟨rfl,bM (by kernel_rfl),fun x n v=>vR x n v⟩⟩
 by_cases h5:k=5
 ·subst h5;exact Or.inl ⟨4,_,_,_,_,_,_,rfl,⟨rfl,bM (by kernel_rfl),fun x n v=>vS x n v⟩⟩
 by_cases h7:k=7
 ·subst h7;exact Or.inl ⟨0,_,_,_,_,_,_,rfl,⟨rfl,bM (by kernel_rfl),fun x n v=>vT x n v⟩⟩
 by_cases h8:k=8
 ·subst h8;exact Or.inl ⟨0,_,_,_,_,_,_,rfl,⟨rfl,bM (by kernel_rfl),fun x n v=>vU x n v⟩⟩
 by_cases h9:k=9
 ·subst h9;exact Or.inl ⟨1,_,_,_,_,_,_,rfl,⟨rfl,bM (by kernel_rfl),fun x n v=>vV x n v⟩⟩
 ·refine Or.inr ⟨by simp [bN,h1,h2,h5,h7,h8,h9],?_⟩;have e1:(k == 1)=false:=beq_eq_false_iff_ne.2 h1;have e2:(k == 2)=false:=beq_eq_false_iff_ne.2 h2;have e5:(k == 5)=false:=beq_eq_false_iff_ne.2 h5;have e7:(k == 7)=false:=beq_eq_false_iff_ne.2 h7;have e8:(k == 8)=false:=beq_eq_false_iff_ne.2 h8;have e9:(k == 9)=false:=beq_eq_false_iff_ne.2 h9;simp [Instr.findNow,cI,Instr.sameNow,e1,e2,e5,e7,e8,e9]
theorem aJ {w:World} {B:Nat} {x0 x1 x2 x3 x4 x5:Value} {T:TypeId} (h:w.heap[B]?=some (.cells #[x0,x1,x2,x3,x4,x5] T)) :
  w.cell? ⟨B,0,none⟩=some x0∧w.cell? ⟨B,1,none⟩=some x1∧w.cell? ⟨B,2,none⟩=some x2∧w.cell? ⟨B,3,none⟩=some x3∧w.cell? ⟨B,4,none⟩=some x4∧w.cell? ⟨B,5,none⟩=some x5 :=
 ⟨by rw [cell_of_row _ _ 0 _ _ (0,0) h];rfl,by rw [cell_of_row _ _ 1 _ _ (0,0) h];rfl,by rw [cell_of_row _ _ 2 _ _ (0,0) h];rfl,by rw [cell_of_row _ _ 3 _ _ (0,0) h];rfl,
  by rw [cell_of_row _ _ 4 _ _ (0,0) h];rfl,by rw [cell_of_row _ _ 5 _ _ (0,0) h];rfl⟩
theorem cy {w:World} {B:Nat} {x0 x1:Value} {T:TypeId} (h:w.heap[B]?=some (.cells #[x0,x1] T)) :
  w.cell? ⟨B,0,none⟩=some x0∧w.cell? ⟨B,1,none⟩=some x1∧w.frozen? ⟨B,0,none⟩=false∧w.frozen? ⟨B,1,none⟩=false :=
 ⟨by rw [cr h];rfl,by rw [cr h];rfl,aX h _,aX h _⟩
theorem br (w:World) (a b:Obj):((w.alloc a).alloc b).heap.size=w.heap.size+1+1∧((w.alloc a).alloc b).heap[w.heap.size]?=some a∧((w.alloc a).alloc b).heap[w.heap.size+1]?=some b∧Below w.heap.size w ((w.alloc a).alloc b):=by
 have s1:(w.alloc a).heap.size=w.heap.size+1:=by simp
 have e2:=zF (w.alloc a) b;rw [s1] at e2;refine ⟨by simp,?_,e2,((zC _ _).alloc (zD _) _).alloc (by omega) _⟩;rw [zG _ _ _ (by omega)];exact zF w a
theorem uu:(prog.info? 27).map (·.size)=some 2:=by kernel_rfl
theorem jO {W:World} {E:Nat} {x0 x1:Value} (h:W.heap[E]?=some (.cells #[x0,x1] 27)):(loadVar 27 ⟨E,0,none⟩).run prog W=.ok (.agg #[x0,x1]) W :=
 run_loadVar_row (P:=prog) _ _ 27 27 #[x0,x1] (0,0) _ h underlying27 rfl uu
theorem aM {W:World} {E:Nat} {z0 z1:Value} {T:TypeId} (h:W.heap[E]?=some (.cells #[z0,z1] T)) (x0 x1:Value) :
  ((W.setCell ⟨E,0,none⟩ x0).setCell ⟨E,1,none⟩ x1).heap[E]?=some (.cells #[x0,x1] T) :=
 zH _ _ 1 _ _ x1 (zH _ _ 0 _ _ x0 h)
theorem kY (w:World) (M:Nat) (es:Array MapEntry) (c i:Nat) (k:Int) (v:Value) (hb:w.heap[M]?=some (.map es c)) (hf:Instr.findNow (.int .i64) (.int .i64 k) es.toList 0=some (some (i,v))) :
  (Instr.lookup 50 (.map (some M)) (.int .i64 k) true).run prog w=.ok (.tuple #[v,.bool true]) w:=by
 unfold Instr.lookup;simp only [Sem.run_bind,Sem.run_pure,run_underlying underlying50,MapKept.run_getObj_map hb,MapKept.run_checkKey underlying2 (d:=.int .i64) (k:=.int .i64 k) (by trivial),MapKept.run_findKey underlying2 hf,Result.andThen];rfl
abbrev mB:Value:=.agg #[.int .i64 0,.nilFunc,.nilFunc,.nilFunc,.nilFunc,.nilFunc]
theorem kZ (w:World) (M:Nat) (es:Array MapEntry) (c:Nat) (k:Int) (hb:w.heap[M]?=some (.map es c)) (hf:Instr.findNow (.int .i64) (.int .i64 k) es.toList 0=some none) :
  (Instr.lookup 50 (.map (some M)) (.int .i64 k) true).run prog w=.ok (.tuple #[mB,.bool false]) w:=by
 unfold Instr.lookup;simp only [Sem.run_bind,Sem.run_pure,run_underlying underlying50,MapKept.run_getObj_map hb,MapKept.run_checkKey underlying2 (d:=.int .i64) (k:=.int .i64 k) (by trivial),MapKept.run_findKey underlying2 hf,Result.andThen,Tryz.zeroValue59];rfl
theorem vW:(prog.info? 59).map (·.size)=some 6:=by kernel_rfl
theorem vX {W:World} {E:Nat} {x0 x1 x2 x3 x4 x5:Value} (h:W.heap[E]?=some (.cells #[x0,x1,x2,x3,x4,x5] 59)):(loadVar 59 ⟨E,0,none⟩).run prog W=.ok (.agg #[x0,x1,x2,x3,x4,x5]) W :=
 run_loadVar_row (P:=prog) _ _ 59 59 #[x0,x1,x2,x3,x4,x5] (0,0) _ h underlying59 rfl vW
theorem pE {W:World} {E:Nat} {x0 x1 x2 x3 x4 x5:Value} (h:W.heap[E]?=some (.cells #[x0,x1,x2,x3,x4,x5] 59)):(loadVar 59 ⟨E,0,none⟩).run prog W.drew=.ok (.agg #[x0,x1,x2,x3,x4,x5]) W.drew :=
 vX (W:=W.drew) h
theorem dP {W:World} {E:Nat} {z0 z1 z2 z3 z4 z5:Value} {T:TypeId} (h:W.heap[E]?=some (.cells #[z0,z1,z2,z3,z4,z5] T)) (x0 x1 x2 x3 x4 x5:Value) :
  ((((((W.setCell ⟨E,0,none⟩ x0).setCell ⟨E,1,none⟩ x1).setCell ⟨E,2,none⟩ x2).setCell ⟨E,3,none⟩ x3).setCell ⟨E,4,none⟩ x4).setCell ⟨E,5,none⟩ x5).heap[E]?=some (.cells #[x0,x1,x2,x3,x4,x5] T) :=
 zH _ _ 5 _ _ x5 (zH _ _ 4 _ _ x4 (zH _ _ 3 _ _ x3 (zH _ _ 2 _ _ x2 (zH _ _ 1 _ _ x1 (zH _ _ 0 _ _ x0 h)))))
theorem cv {n:Nat} {w W:World} {E:Nat} (h:Below n w W) (hE:n≤E) (x0 x1 x2 x3 x4 x5:Value) :
  Below n w ((((((W.setCell ⟨E,0,none⟩ x0).setCell ⟨E,1,none⟩ x1).setCell ⟨E,2,none⟩ x2).setCell ⟨E,3,none⟩ x3).setCell ⟨E,4,none⟩ x4).setCell ⟨E,5,none⟩ x5) :=
 (((((h.setCell (p:=⟨E,0,none⟩) hE _).setCell (p:=⟨E,1,none⟩) hE _).setCell (p:=⟨E,2,none⟩) hE _).setCell (p:=⟨E,3,none⟩) hE _).setCell (p:=⟨E,4,none⟩) hE _).setCell (p:=⟨E,5,none⟩) hE _
theorem tu {w:World} {B:Nat} {x0 x1 x2 x3 x4 x5:Value} {T:TypeId} (h:w.heap[B]?=some (.cells #[x0,x1,x2,x3,x4,x5] T)) :
  w.frozen? ⟨B,0,none⟩=false∧w.frozen? ⟨B,1,none⟩=false∧w.frozen? ⟨B,2,none⟩=false∧w.frozen? ⟨B,3,none⟩=false∧w.frozen? ⟨B,4,none⟩=false∧w.frozen? ⟨B,5,none⟩=false :=
 ⟨aX h _,aX h _,aX h _,aX h _,aX h _,aX h _⟩
theorem gh (M:Nat) (k:Int) (t:ByteArray) (s f f2 f3 f4 f5 j:Nat) (w:World) (hM:w.heap[M]?=some (.map cI 6)) (hf:Instr.findNow (.int .i64) (.int .i64 k) cI.toList 0=some (some (j,aZ s f f2 f3 f4 f5))) :
  Calls prog 188 #[.map (some M),.agg #[.int .i64 k,.string t]] w fun e w'=>e=.returned (.tuple #[aZ s f f2 f3 f4 f5,.bool ((t.size:Int) == (s:Int))])∧Below w.heap.size w w':=by
 have hMl:M<w.heap.size:=(ge.1 hM).1;obtain ⟨hs,q0,q1,hb0⟩:=br w (.cells #[.int .i64 k,.string t] 27) (.cells #[.int .i64 0,.nilFunc,.nilFunc,.nilFunc,.nilFunc,.nilFunc] 59);have hlk:=kY ((w.alloc (.cells #[.int .i64 k,.string t] 27)).alloc (.cells #[.int .i64 0,.nilFunc,.nilFunc,.nilFunc,.nilFunc,.nilFunc] 59)) M cI 6 j k _ ((hb0.block M hMl).trans hM) hf;have HQ:=aa (zA hs (zA q0 (zA q1 hb0)));clear hs q0 q1 hb0 hM hf;go_enter func188,ntmps188
 go_upto_region 2 with fail
 refine aI (fun q=>q.heap[w.heap.size]?=some (.cells #[.int .i64 k,.string t] 27)∧q.heap[w.heap.size+1]?=some (.cells #[.int .i64 0,.nilFunc,.nilFunc,.nilFunc,.nilFunc,.nilFunc] 59)∧q.heap[w.heap.size+1+1]?=some (.cells #[.int .i64 s,cY f,cY f2,cY f3,cY f4,cY f5] 59)∧Below w.heap.size w q) (by
   obtain ⟨hs,q0,q1,hb0⟩:=uh HQ;have hn:=zF ((w.alloc (.cells #[.int .i64 k,.string t] 27)).alloc (.cells #[.int .i64 0,.nilFunc,.nilFunc,.nilFunc,.nilFunc,.nilFunc] 59)) (.cells #[.int .i64 s,cY f,cY f2,cY f3,cY f4,cY f5] 59);rw [hs] at hn;exact ⟨(zG _ _ _ (by omega)).trans q0,(zG _ _ _ (by omega)).trans q1,hn,hb0.alloc hb0.size _⟩) ?_
 rintro q ⟨h0,h1,h2,hb⟩;clear hlk HQ;obtain ⟨c0,c1,_,_⟩:=cy h0;obtain ⟨e0,e1,e2,e3,e4,e5⟩:=aJ h1;obtain ⟨g0,g1,g2,g3,g4,g5⟩:=tu h1;obtain ⟨r0,r1,r2,r3,r4,r5⟩:=aJ h2;have HH:=aa (zA h1 hb);clear h0 h1 h2 hb;go_region_held3 (fun z=>z.cell? ⟨w.heap.size,1,none⟩=some (.string t)∧z.cell? ⟨w.heap.size+1+1,0,none⟩=some (.int .i64 s)∧z.cell? ⟨w.heap.size+1+1,1,none⟩=some (cY f)∧z.cell? ⟨w.heap.size+1+1,2,none⟩=some (cY f2)∧z.cell? ⟨w.heap.size+1+1,3,none⟩=some (cY f3)∧z.cell? ⟨w.heap.size+1+1,4,none⟩=some (cY f4)∧z.cell? ⟨w.heap.size+1+1,5,none⟩=some (cY f5)) (go_keep) (fail)
 all_goals
  go_wp2
  refine bodyPost_ret (v:=.tuple #[aZ s f f2 f3 f4 f5,.bool ((t.size:Int) == (s:Int))]) (by simp [results,results188,asAddr,pE (dP (uh HH).1 (.int .i64 s) (cY f) (cY f2) (cY f3) (cY f4) (cY f5))]) rfl ⟨rfl,?_⟩;exact (cv (uh HH).2 (Nat.le_succ _) _ _ _ _ _ _).drew
theorem gW (M:Nat) (k:Int) (t:ByteArray) (w:World) (hM:w.heap[M]?=some (.map cI 6)) (hf:Instr.findNow (.int .i64) (.int .i64 k) cI.toList 0=some none) :
  Calls prog 188 #[.map (some M),.agg #[.int .i64 k,.string t]] w fun e w'=>e=.returned (.tuple #[mB,.bool false])∧Below w.heap.size w w':=by
 have hMl:M<w.heap.size:=(ge.1 hM).1;obtain ⟨hs,q0,q1,hb0⟩:=br w (.cells #[.int .i64 k,.string t] 27) (.cells #[.int .i64 0,.nilFunc,.nilFunc,.nilFunc,.nilFunc,.nilFunc] 59);have hlk:=kZ ((w.alloc (.cells #[.int .i64 k,.string t] 27)).alloc (.cells #[.int .i64 0,.nilFunc,.nilFunc,.nilFunc,.nilFunc,.nilFunc] 59)) M cI 6 k ((hb0.block M hMl).trans hM) hf;have HQ:=aa (zA hs (zA q0 (zA q1 hb0)));clear hs q0 q1 hb0 hM hf;go_enter func188,ntmps188
 go_upto_region 2 with fail
 refine aI (fun q=>q.heap[w.heap.size]?=some (.cells #[.int .i64 k,.string t] 27)∧q.heap[w.heap.size+1]?=some (.cells #[.int .i64 0,.nilFunc,.nilFunc,.nilFunc,.nilFunc,.nilFunc] 59)∧q.heap[w.heap.size+1+1]?=some (.cells #[.int .i64 0,.nilFunc,.nilFunc,.nilFunc,.nilFunc,.nilFunc] 59)∧Below w.heap.size w q) (by
   obtain ⟨hs,q0,q1,hb0⟩:=uh HQ;have hn:=zF ((w.alloc (.cells #[.int .i64 k,.string t] 27)).alloc (.cells #[.int .i64 0,.nilFunc,.nilFunc,.nilFunc,.nilFunc,.nilFunc] 59)) (.cells #[.int .i64 0,.nilFunc,.nilFunc,.nilFunc,.nilFunc,.nilFunc] 59);rw [hs] at hn;exact ⟨(zG _ _ _ (by omega)).trans q0,(zG _ _ _ (by omega)).trans q1,hn,hb0.alloc hb0.size _⟩) ?_
 rintro q ⟨h0,h1,h2,hb⟩;clear hlk HQ;obtain ⟨c0,c1,_,_⟩:=cy h0;obtain ⟨e0,e1,e2,e3,e4,e5⟩:=aJ h1;obtain ⟨g0,g1,g2,g3,g4,g5⟩:=tu h1;obtain ⟨r0,r1,r2,r3,r4,r5⟩:=aJ h2;have HH:=aa (zA h1 hb);clear h0 h1 h2 hb;go_region
 all_goals
  go_wp2
  refine bodyPost_ret (v:=.tuple #[mB,.bool false]) (by simp [results,results188,asAddr,pE (dP (uh HH).1 (.int .i64 0) .nilFunc .nilFunc .nilFunc .nilFunc .nilFunc)]) rfl ⟨rfl,?_⟩;exact (cv (uh HH).2 (Nat.le_succ _) _ _ _ _ _ _).drew
structure LnS (w:World) (X M:Nat) (x:Ln) (q:World):Prop where
 r:q.heap[w.heap.size]?=some (.cells #[.int .i64 0,.int .i64 0,.bool false,.bool false,.bool false] 70)
 x:q.heap[X]?=some (.cells (gR x) 70)
 m:q.heap[M]?=some (.map cI 6)
 b:Below w.heap.size w q
theorem LnS.step {w:World} {X M:Nat} {x:Ln} {q q':World} (h:LnS w X M x q) (hb:Below q.heap.size q q'):LnS w X M x q' :=
 ⟨(hb.block _ (ge.1 h.r).1).trans h.r,(hb.block _ (ge.1 h.x).1).trans h.x,(hb.block _ (ge.1 h.m).1).trans h.m,h.b.trans (hb.mono h.b.size)⟩
theorem fq {w:World} {B:Nat} {x0 x1 x2 x3 x4:Value} {T:TypeId} (h:w.heap[B]?=some (.cells #[x0,x1,x2,x3,x4] T)) :
  w.cell? ⟨B,0,none⟩=some x0∧w.cell? ⟨B,1,none⟩=some x1∧w.cell? ⟨B,2,none⟩=some x2∧w.cell? ⟨B,3,none⟩=some x3∧w.cell? ⟨B,4,none⟩=some x4∧w.frozen? ⟨B,0,none⟩=false∧w.frozen? ⟨B,1,none⟩=false∧w.frozen? ⟨B,2,none⟩=false∧w.frozen? ⟨B,3,none⟩=false∧w.frozen? ⟨B,4,none⟩=false :=
 ⟨by rw [cr h];rfl,by rw [cr h];rfl,by rw [cr h];rfl,by rw [cr h];rfl,by rw [cr h];rfl,aX h _,aX h _,aX h _,aX h _,aX h _⟩
theorem vY:(prog.info? 70).map (·.size)=some 5:=by kernel_rfl
theorem ny {W:World} {E:Nat} {x0 x1 x2 x3 x4:Value} (h:W.heap[E]?=some (.cells #[x0,x1,x2,x3,x4] 70)):(loadVar 70 ⟨E,0,none⟩).run prog W=.ok (.agg #[x0,x1,x2,x3,x4]) W :=
 run_loadVar_row (P:=prog) _ _ 70 70 #[x0,x1,x2,x3,x4] (0,0) _ h underlying70 rfl vY
theorem gu {W:World} {E:Nat} {z0 z1 z2 z3 z4:Value} {T:TypeId} (h:W.heap[E]?=some (.cells #[z0,z1,z2,z3,z4] T)) (x0 x1 x2 x3 x4:Value) :
  (((((W.setCell ⟨E,0,none⟩ x0).setCell ⟨E,1,none⟩ x1).setCell ⟨E,2,none⟩ x2).setCell ⟨E,3,none⟩ x3).setCell ⟨E,4,none⟩ x4).heap[E]?=some (.cells #[x0,x1,x2,x3,x4] T) :=
 zH _ _ 4 _ _ x4 (zH _ _ 3 _ _ x3 (zH _ _ 2 _ _ x2 (zH _ _ 1 _ _ x1 (zH _ _ 0 _ _ x0 h))))
theorem dY {n:Nat} {w W:World} {E:Nat} (h:Below n w W) (hE:n≤E) (x0 x1 x2 x3 x4:Value):Below n w (((((W.setCell ⟨E,0,none⟩ x0).setCell ⟨E,1,none⟩ x1).setCell ⟨E,2,none⟩ x2).setCell ⟨E,3,none⟩ x3).setCell ⟨E,4,none⟩ x4) :=
 ((((h.setCell (p:=⟨E,0,none⟩) hE _).setCell (p:=⟨E,1,none⟩) hE _).setCell (p:=⟨E,2,none⟩) hE _).setCell (p:=⟨E,3,none⟩) hE _).setCell (p:=⟨E,4,none⟩) hE _
theorem gi {W:World} {E g:Nat} (hg:g≠E) (x0 x1 x2 x3 x4:Value):(((((W.setCell ⟨E,0,none⟩ x0).setCell ⟨E,1,none⟩ x1).setCell ⟨E,2,none⟩ x2).setCell ⟨E,3,none⟩ x3).setCell ⟨E,4,none⟩ x4).heap[g]?=W.heap[g]?:=by
 rw [Below.heap_setCell _ _ _ _ hg,Below.heap_setCell _ _ _ _ hg,Below.heap_setCell _ _ _ _ hg,Below.heap_setCell _ _ _ _ hg,Below.heap_setCell _ _ _ _ hg]
theorem jP {W:World} {E:Nat} (p:Addr) (hp:p.block≠E) (x0 x1 x2 x3 x4:Value):(((((W.setCell ⟨E,0,none⟩ x0).setCell ⟨E,1,none⟩ x1).setCell ⟨E,2,none⟩ x2).setCell ⟨E,3,none⟩ x3).setCell ⟨E,4,none⟩ x4).cell? p=W.cell? p:=by
 unfold World.cell?;rw [gi hp]
theorem LnS.put {w:World} {X M:Nat} {x:Ln} {q:World} (h:LnS w X M x q) (h1:w.heap.size<X) (h2:M<X) (y:Ln) :
  LnS w X M y (((((q.setCell ⟨X,0,none⟩ (.int .i64 y.m)).setCell ⟨X,1,none⟩ (.int .i64 y.a)).setCell ⟨X,2,none⟩ (.bool y.p)).setCell ⟨X,3,none⟩ (.bool y.c)).setCell ⟨X,4,none⟩ (.bool y.d)) :=
 ⟨(gi (by omega) _ _ _ _ _).trans h.r,gu h.x _ _ _ _ _,(gi (by omega) _ _ _ _ _).trans h.m,dY h.b (by omega) _ _ _ _ _⟩
theorem HoldsO.at {w:World} {v:Value} {F:List Op.Opt} (h:HoldsO w v F) (i:Nat) (hi:i<F.length):∃ g,(∃ cp,v=.slice (some ⟨g,0,none⟩) F.length cp)∧g<w.heap.size∧w.cell? ⟨g,i*2,none⟩=some (.int .i64 F[i].kind)∧w.cell? ⟨g,i*2+1,none⟩=some (.string F[i].data):=by
 rcases h with ⟨_,_,_,e⟩ | ⟨g,cp,cur,e,q1,q2,q3⟩
 ·rw [e] at hi;exact absurd hi (Nat.not_lt_zero _)
 ·have hg:=bW F i _ (List.getElem?_eq_getElem hi);exact ⟨g,⟨cp,e⟩,(ge.1 q1).1,by rw [cr q1,q3 _ (by omega)];exact hg.1,by rw [cr q1,q3 _ (by omega)];exact hg.2⟩
theorem gv (v:Value) (F:List Op.Opt) (w:World) (hm:F.length≤maxLen) (h:HoldsO w v F) :
  Calls prog 174 #[v] w fun e w'=>e=.returned (.agg (gR (aQ F)))∧Below w.heap.size w w':=by
 have C1:=aa fun W (hb:Below w.heap.size w W)=>cq v F W hm (h.below hb rfl)
 unfold aQ;cases hr:Op.right F
 ·rw [if_neg (by decide)];rw [hr] at C1;obtain ⟨ad,cp,rfl⟩:=h.form;have hb0:Below w.heap.size w (w.alloc (.cells #[.int .i64 0,.int .i64 0,.bool false,.bool false,.bool false] 70)):=(zC _ _).alloc (zD _) _;have hr0:=zF w (.cells #[.int .i64 0,.int .i64 0,.bool false,.bool false,.bool false] 70);have H0:=aa (zA hr0 hb0);clear hr0 hb0 h;go_enter func174,ntmps174
  go_wp2_with fail
  refine (uh C1 _ (uh H0).2).mono ?_;rintro e w1 ⟨rfl,hb1⟩;have hr1:=(hb1.block w.heap.size (by simp)).trans (uh H0).1;have hB1:=(uh H0).2.trans (hb1.mono (uh H0).2.size);obtain ⟨r0,r1,r2,r3,r4,f0,f1,f2,f3,f4⟩:=fq hr1;have H1:=aa (zA hr1 hB1);clear hr1 hB1 hb1 H0 C1;go_wp2
  refine bodyPost_ret (v:=.agg #[.int .i64 0,.int .i64 0,.bool false,.bool false,.bool false]) (by simp [results,results174,asAddr,ny (gu (uh H1).1 (.int .i64 0) (.int .i64 0) (.bool false) (.bool false) (.bool false))]) rfl ⟨rfl,dY (uh H1).2 (zD _) _ _ _ _ _⟩
 ·rw [if_pos rfl];rw [hr] at C1;have hFl:=Op.right_len hr;have HFO:=aa (Op.right_all hr);have HAT:=aa fun i hi=>h.at i hi
  obtain ⟨ad,cp,rfl⟩:=h.form;obtain ⟨n,hn⟩:∃ n,F.length=n:=⟨_,rfl⟩;have hb0:Below w.heap.size w (w.alloc (.cells #[.int .i64 0,.int .i64 0,.bool false,.bool false,.bool false] 70)):=(zC _ _).alloc (zD _) _;have hr0:=zF w (.cells #[.int .i64 0,.int .i64 0,.bool false,.bool false,.bool false] 70);have H0:=aa (zA hr0 hb0);clear hr0 hb0 h hr;have HTL:Hid (F.take n=F):=aa (List.take_of_length_le (by omega));obtain ⟨R,hR⟩:∃ R,ep F=R:=⟨_,rfl⟩;rw [hR];have HR:=aa hR;clear hR;rw [hn] at C1 ⊢;go_enter func174,ntmps174
  go_wp2_with fail
  refine (uh C1 _ (uh H0).2).mono ?_;rintro e w1 ⟨rfl,hb1⟩;have hr1:=(hb1.block w.heap.size (by simp)).trans (uh H0).1;have hB1:=(uh H0).2.trans (hb1.mono (uh H0).2.size);have H1:=aa (zA hr1 hB1);clear hr1 hB1 hb1 H0 C1;go_wp2_with fail
  refine (dF _).mono ?_;rintro e w2 ⟨rfl,hm2,hb2⟩;have hI:LnS w w2.heap.size w1.heap.size (ep (F.take 0)) (w2.alloc (.cells #[.int .i64 300,.int .i64 4294967295,.bool false,.bool false,.bool false] 70)):=by
   have hl1:=(ge.1 (uh H1).1).1;have hl2:=(ge.1 hm2).1;have hr2:=(hb2.block w.heap.size hl1).trans (uh H1).1;have hB2:=(uh H1).2.trans (hb2.mono (uh H1).2.size);have hs2:=hb2.size;exact ⟨(zG _ _ _ (by omega)).trans hr2,zF w2 _,(zG _ _ _ hl2).trans hm2,hB2.alloc hB2.size _⟩
  have hX:w.heap.size<w2.heap.size∧w1.heap.size<w2.heap.size:=⟨Nat.lt_of_lt_of_le (ge.1 (uh H1).1).1 hb2.size,(ge.1 hm2).1⟩;have HI:=aa hI;clear hI hm2 hb2 H1;obtain ⟨hX1,hX2⟩:=hX;go_wp2_with fail
  generalize w1.heap.size=M at *;generalize w2.heap.size=X at *;go_loopw [17] (fun y wr=>∃ i:Nat,i≤n∧y=.int .i64 i∧LnS w X M (ep (F.take i)) wr) (fun y _=>n - (intOf y).toNat)
  case atStart=>exact ⟨0,Nat.zero_le _,rfl,uh HI⟩
  case round =>
   obtain ⟨i,hi,rfl,hS⟩:=hrel;clear HI;by_cases hlt:i<n
   ·have d1:(i:Int)<(n:Int):=by omega
    have d0:(0:Int)≤(i:Int):=by omega
    obtain ⟨g,⟨cp2,e2⟩,hgl,k0,k1⟩:=uh HAT i (by omega);cases e2;replace k0:=(hS.b.cell (p:=⟨g,i*2,none⟩) hgl).trans k0;replace k1:=(hS.b.cell (p:=⟨g,i*2+1,none⟩) hgl).trans k1;have HSN:=aa (i_ F i (by omega));have hok:=uh HFO _ (List.getElem_mem (show i<F.length by omega));generalize F[i]'(by omega)=o at *;obtain ⟨kd,dt⟩:=o;dsimp only at k0 k1;generalize ep (F.take i)=x at *;have hds:dt.size≤20:=by unfold Op.ok at hok;have:=of_decide_eq_true hok;exact this.2.2
    have HS:=aa hS;clear hS HAT HFO hok;go_upto_region 8 with fail
    refine aI (fun q=>LnS w X M x q∧q.heap[wr.heap.size]?=some (.cells #[.int .i64 kd,.string dt] 27))
     ⟨(uh HS).step ((zC _ _).alloc (zD _) _),zF wr _⟩ ?_
    rintro q1 ⟨hS1,hO1⟩;have hN1:X<wr.heap.size:=(ge.1 (uh HS).x).1;generalize wr.heap.size=N1 at *;have hl1:N1<q1.heap.size:=(ge.1 hO1).1;obtain ⟨c0,c1,_,_⟩:=cy hO1;have HV1:=aa (zA hS1 hO1);clear hO1 HS k0 k1;unfold nw at HSN;dsimp only at HSN;rcases ur kd with ⟨s,f,f2,f3,f4,f5,j,hs,hJ⟩ | ⟨hs,hf⟩
    ·have CR:=aa (gh M kd dt s f f2 f3 f4 f5 j q1 hS1.m hJ.fd);have hcf:=hJ.cf;have HJL:=aa hJ.ln;have h4:=i8 hs;clear hS1 hJ;go_wp2_with fail
     refine (uh CR).mono ?_;rintro e w3 ⟨rfl,hb3⟩;have HV3:=aa (zA ((uh HV1).1.step hb3) ((hb3.block N1 hl1).trans (uh HV1).2));have hl3:N1<w3.heap.size:=Nat.lt_of_lt_of_le hl1 hb3.size;clear hb3 HV1 hl1 c0 c1 CR;cases hq:((dt.size:Int) == (s:Int))
     ·have hne:¬ (bN kd=some dt.size):=fun e=>by
       rw [hs] at e;cases e;rw [beq_self_eq_true] at hq;cases hq
      rw [if_neg hne] at HSN;go_wp2_with fail
      go_roundw
      case rel=>exact ⟨i+1,by omega,by go_num,by rw [uh HSN];exact (uh HV3).1.step ((zC _ _).alloc (zD _) _)⟩
      case measure=>simp [intOf];omega
     ·have hes:dt.size=s:=by have:=eq_of_beq hq;omega
      rw [if_pos (by rw [hs,hes])] at HSN;have CN:=aa fun v=>i7 kd dt v (by omega)
      have hnx:=eM dt.data.toList (by rw [bC];omega);have HJ2:=aa fun v=>uh HJL x (ax dt.data.toList) v
      generalize ax dt.data.toList=nx at *;clear HJL;go_upto_region 10 with fail
      refine aI (fun q=>LnS w X M x q∧q.heap[N1]?=some (.cells #[.int .i64 kd,.string dt] 27)∧q.heap[w3.heap.size]?=some (.cells #[.int .i64 s,cY f,cY f2,cY f3,cY f4,cY f5] 59))
       ⟨(uh HV3).1.step ((zC _ _).alloc (zD _) _),(zG _ _ _ hl3).trans (uh HV3).2,zF w3 _⟩ ?_
      rintro q4 ⟨hS4,hO4,hR4⟩;have hN2:X<w3.heap.size:=by omega
      generalize w3.heap.size=N2 at *;obtain ⟨c0,c1,_,_⟩:=cy hO4;obtain ⟨_,_,_,_,_,r5⟩:=aJ hR4;have HV4:=aa (zA hS4 (zA hO4 hR4));clear hS4 hO4 hR4 HV3;refine wp_region_held_drew (S:=fun z=>z.cell? ⟨N1,0,none⟩=some (.int .i64 kd)∧z.cell? ⟨N1,1,none⟩=some (.string dt)∧z.cell? ⟨N2,5,none⟩=some (cY f5)) (by kernel_rfl) ?_ (fun hHeld=>?_)
      ·exact ⟨c0,c1,r5⟩
      refine tt 0 1 ?_;refine t2 3 ?_;refine wpAnyH_ready (rs:=[2,4]) (by kernel_rfl) (by simp) ?_;have hn1:N1<q4.heap.size:=(ge.1 (uh HV4).2.1).1;have hn2:N2<q4.heap.size:=(ge.1 (uh HV4).2.2).1;refine AllReadyH.cons rfl (fun K hK=>?_) (AllReadyH.cons rfl (fun K hK=>?_) AllReadyH.nil)
      ·obtain ⟨m0,m1,m2,m3,m4,_,_,_,_,_⟩:=fq (uh HV4).1.x;go_simp;refine hK.out _ _ ?_ (fun hHeld2=>?_)
       ·exact ⟨c0,c1,r5⟩
       clear hK K m0 m1 m2 m3 m4;try simp only [Act.put,sA,sZ,sS,gA,gZ,gS]
       refine r3 4 fun K hK=>?_
       go_simp;refine (uh CN _).mono ?_;rintro e w5 ⟨rfl,hb5⟩;have B5:Below q4.heap.size q4 w5:=(zC _ _).drew.trans hb5;go_wp2_with fail
       refine hK.out _ _ ?_ (fun hHeld3=>?_)
       ·exact ⟨(B5.cell (p:=⟨N1,0,none⟩) hn1).trans c0,(B5.cell (p:=⟨N1,1,none⟩) hn1).trans c1,(B5.cell (p:=⟨N2,5,none⟩) hn2).trans r5⟩
       clear hK K;try simp only [Act.put,sA,sZ,sS,gA,gZ,gS]
       refine r3 5 fun K hK=>?_
       go_simp;refine (uh HJ2 _).mono ?_;rintro e w6 ⟨rfl,hb6⟩;have B6:Below q4.heap.size q4 w6:=B5.trans (hb6.mono B5.size);have h6:=(uh HV4).1.step B6;go_wp2_with fail
       refine hK.out _ _ ?_ (fun hHeld4=>?_)
       ·exact ⟨(B6.cell (p:=⟨N1,0,none⟩) hn1).trans c0,(B6.cell (p:=⟨N1,1,none⟩) hn1).trans c1,(B6.cell (p:=⟨N2,5,none⟩) hn2).trans r5⟩
       clear hK K;try simp only [Act.put,sA,sZ,sS,gA,gZ,gS]
       refine r3 6 fun K hK=>?_
       obtain ⟨m0,m1,m2,m3,m4,f0,f1',f2',f3',f4'⟩:=fq h6.x;have HL:=aa (h6.put hX1 hX2 (gT kd x nx));have n1X:N1≠X:=by omega
       have n2X:N2≠X:=by omega
       go_simp;refine hK.out _ _ ?_ (fun hHeld5=>?_)
       ·have T:=fun p (hp:p.block≠X)=>jP (W:=w6) (E:=X) p hp (.int .i64 (gT kd x nx).m) (.int .i64 (gT kd x nx).a) (.bool (gT kd x nx).p) (.bool (gT kd x nx).c) (.bool (gT kd x nx).d)
        exact ⟨(T ⟨N1,0,none⟩ n1X).trans ((B6.cell (p:=⟨N1,0,none⟩) hn1).trans c0),(T ⟨N1,1,none⟩ n1X).trans ((B6.cell (p:=⟨N1,1,none⟩) hn1).trans c1),(T ⟨N2,5,none⟩ n2X).trans ((B6.cell (p:=⟨N2,5,none⟩) hn2).trans r5)⟩
       clear hK K;try simp only [Act.put,sA,sZ,sS,gA,gZ,gS]
       refine dn ?_ _;go_wp2_with fail
       go_roundw
       case rel=>exact ⟨i+1,by omega,by go_num,by rw [uh HSN];exact uh HL⟩
       case measure=>simp [intOf];omega
      ·go_simp;refine (uh CN _).mono ?_;rintro e w5 ⟨rfl,hb5⟩;have B5:Below q4.heap.size q4 w5:=(zC _ _).drew.trans hb5;go_wp2_with fail
       refine hK.out _ _ ?_ (fun hHeld2=>?_)
       ·exact ⟨(B5.cell (p:=⟨N1,0,none⟩) hn1).trans c0,(B5.cell (p:=⟨N1,1,none⟩) hn1).trans c1,(B5.cell (p:=⟨N2,5,none⟩) hn2).trans r5⟩
       clear hK K;try simp only [Act.put,sA,sZ,sS,gA,gZ,gS]
       refine r3 2 fun K hK=>?_
       obtain ⟨m0,m1,m2,m3,m4,_,_,_,_,_⟩:=fq ((uh HV4).1.step B5).x;go_simp;refine hK.out _ _ ?_ (fun hHeld3=>?_)
       ·exact ⟨(B5.cell (p:=⟨N1,0,none⟩) hn1).trans c0,(B5.cell (p:=⟨N1,1,none⟩) hn1).trans c1,(B5.cell (p:=⟨N2,5,none⟩) hn2).trans r5⟩
       clear hK K m0 m1 m2 m3 m4;try simp only [Act.put,sA,sZ,sS,gA,gZ,gS]
       refine r3 5 fun K hK=>?_
       go_simp;refine (uh HJ2 _).mono ?_;rintro e w6 ⟨rfl,hb6⟩;have B6:Below q4.heap.size q4 w6:=B5.trans (hb6.mono B5.size);have h6:=(uh HV4).1.step B6;go_wp2_with fail
       refine hK.out _ _ ?_ (fun hHeld4=>?_)
       ·exact ⟨(B6.cell (p:=⟨N1,0,none⟩) hn1).trans c0,(B6.cell (p:=⟨N1,1,none⟩) hn1).trans c1,(B6.cell (p:=⟨N2,5,none⟩) hn2).trans r5⟩
       clear hK K;try simp only [Act.put,sA,sZ,sS,gA,gZ,gS]
       refine r3 6 fun K hK=>?_
       obtain ⟨m0,m1,m2,m3,m4,f0,f1',f2',f3',f4'⟩:=fq h6.x;have HL:=aa (h6.put hX1 hX2 (gT kd x nx));have n1X:N1≠X:=by omega
       have n2X:N2≠X:=by omega
       go_simp;refine hK.out _ _ ?_ (fun hHeld5=>?_)
       ·have T:=fun p (hp:p.block≠X)=>jP (W:=w6) (E:=X) p hp (.int .i64 (gT kd x nx).m) (.int .i64 (gT kd x nx).a) (.bool (gT kd x nx).p) (.bool (gT kd x nx).c) (.bool (gT kd x nx).d)
        exact ⟨(T ⟨N1,0,none⟩ n1X).trans ((B6.cell (p:=⟨N1,0,none⟩) hn1).trans c0),(T ⟨N1,1,none⟩ n1X).trans ((B6.cell (p:=⟨N1,1,none⟩) hn1).trans c1),(T ⟨N2,5,none⟩ n2X).trans ((B6.cell (p:=⟨N2,5,none⟩) hn2).trans r5)⟩
       clear hK K;try simp only [Act.put,sA,sZ,sS,gA,gZ,gS]
       refine dn ?_ _;go_wp2_with fail
       go_roundw
       case rel=>exact ⟨i+1,by omega,by go_num,by rw [uh HSN];exact uh HL⟩
       case measure=>simp [intOf];omega
    ·have CR:=aa (gW M kd dt q1 hS1.m hf);rw [if_neg (by rw [hs];intro e;cases e)] at HSN;clear hS1 hf;go_wp2_with fail
     refine (uh CR).mono ?_;rintro e w3 ⟨rfl,hb3⟩;have HV3:=aa ((uh HV1).1.step hb3);clear hb3 HV1 hl1 c0 c1 CR;go_wp2_with fail
     go_roundw
     case rel=>exact ⟨i+1,by omega,by go_num,by rw [uh HSN];exact (uh HV3).step ((zC _ _).alloc (zD _) _)⟩
     case measure=>simp [intOf];omega
   ·have e:i=n:=by omega
    subst e;have d1:¬ ((i:Int)<(i:Int)):=by omega
    rw [uh HTL,uh HR] at hS;obtain ⟨m0,m1,m2,m3,m4,_,_,_,_,_⟩:=fq hS.x;obtain ⟨r0,r1,r2,r3,r4,f0,f1,f2,f3,f4⟩:=fq hS.r;have HS:=aa hS;clear hS HAT HFO HTL HR;go_wp2
    exact bodyPost_ret (v:=.agg (gR R)) (by simp [results,results174,asAddr,ny (gu (uh HS).r (.int .i64 R.m) (.int .i64 R.a) (.bool R.p) (.bool R.c) (.bool R.d))]) rfl ⟨rfl,dY (uh HS).b (zD _) _ _ _ _ _⟩
def rr (J:Nat→Act→World→Prop) (Q:Exit→Act→World→Prop):Exit→Act→World→Prop
 | .goto l,a,w=>J l a w
 | e,a,w=>Q e a w
section
variable {Q:Exit→Act→World→Prop} {J:Nat→Act→World→Prop} {a:Act} {w:World}
end
theorem vG {P:Program} {a:Act} {w:World} {Q:Exit→Act→World→Prop} {c:Code} (J:Nat→Act→World→Prop) (μ:Act→World→Nat)
  (pass:∀ l a w,J l a w→∃ rest,findLabel c l=some rest∧rest.wp P (rr (fun l' a' w'=>J l' a' w'∧μ a' w' < μ a w) Q) a w)
  (first:c.wp P (rr J Q) a w):(Code.scope c).wp P Q a w:=by
 intro b k cs;have key:∀ n l a w,μ a w=n→J l a w→∃ rest,findLabel c l=some rest∧∃ e a' w',Q e a' w'∧Arrives P (lone (b.at a (.code rest :: .inScope c :: k)) cs w) b k cs e a' w':=by
  intro n;induction n using Nat.strongRecOn with
  | _ n ih =>
   intro l a w hn hJ;obtain ⟨rest,hf,hp⟩:=pass l a w hJ;refine ⟨rest,hf,?_⟩;obtain ⟨e,a₁,w₁,hq,harr⟩:=hp b (.inScope c :: k) cs;cases e with
   | normal=>exact ⟨.normal,a₁,w₁,hq,Steps.trans harr (.one step_inScope)⟩
   | exit id=>exact ⟨.exit id,a₁,w₁,hq,fun k' hk=>harr k' (by simp [exitTo,hk])⟩
   | goto l' =>
    obtain ⟨hJ',hlt⟩:=hq;obtain ⟨rest',hf',e₂,a₂,w₂,hq₂,harr₂⟩:=ih _ (by omega) l' a₁ w₁ rfl hJ';have hg:gotoIn l' (.inScope c :: k)=some (.code rest' :: .inScope c :: k):=by simp [gotoIn,hf']
    exact ⟨e₂,a₂,w₂,hq₂,.of_steps (harr _ hg) harr₂⟩
   | ret=>exact ⟨_,a₁,w₁,hq,harr⟩
   | panic ch=>exact ⟨_,a₁,w₁,hq,harr⟩
   | outgrown=>exact ⟨_,a₁,w₁,hq,harr⟩
 obtain ⟨e,a₁,w₁,hq,harr⟩:=first b (.inScope c :: k) cs;cases e with
 | normal=>exact ⟨.normal,a₁,w₁,hq,.head step_scope (Steps.trans harr (.one step_inScope))⟩
 | exit id=>exact ⟨.exit id,a₁,w₁,hq,fun k' hk=>.head step_scope (harr k' (by simp [exitTo,hk]))⟩
 | goto l' =>
  obtain ⟨rest',hf',e₂,a₂,w₂,hq₂,harr₂⟩:=key _ l' a₁ w₁ rfl hq;have hg:gotoIn l' (.inScope c :: k)=some (.code rest' :: .inScope c :: k):=by simp [gotoIn,hf']
  exact ⟨e₂,a₂,w₂,hq₂,.of_steps (.head step_scope (harr _ hg)) harr₂⟩
 | ret=>exact ⟨_,a₁,w₁,hq,.of_steps (.one step_scope) harr⟩
 | panic ch=>exact ⟨_,a₁,w₁,hq,.of_steps (.one step_scope) harr⟩
 | outgrown=>exact ⟨_,a₁,w₁,hq,.of_steps (.one step_scope) harr⟩
end Go.Proofs.YtjebigodbnefiaaGreatDoor
