/- SpecRep2 RepF WkL HrK -/
import Derived.Test.YtjebigodbnefiaaGreatDoorS16
import Derived.Test.YtjebigodbnefiaaGreatDoorS12
import Derived.Lib.SliceRun
set_option maxHeartbeats 8000000
set_option maxRecDepth 100000
namespace Go.Proofs.YtjebigodbnefiaaGreatDoor
open Go.RowKit Go.Proofs.Tryz
def ck (m a g:Int) (p c d:Bool) (L:List Op.Opt):Int × List Op.Opt :=
 if aK m a g=true∧Op.right L=true then (mx (b_ m.toNat a.toNat g.toNat p c d L),fl (mx (b_ m.toNat a.toNat g.toNat p c d L)) (b_ m.toNat a.toNat g.toNat p c d L)) else (0,[])
theorem lM (m a g:Int) (p c d:Bool) (L:List Op.Opt):(ck m a g p c d L).2.length≤20:=by
 unfold ck;split
 ·next h =>
  refine zE (kl _ _) ?_;unfold b_;rw [eq];exact Op.right_len h.2
 ·exact Nat.zero_le _
theorem nV {m a g:Int} (h:aK m a g=true):((m.toNat:Nat):Int)=m∧((a.toNat:Nat):Int)=a∧((g.toNat:Nat):Int)=g:=by
 simp only [aK,al,Bool.and_eq_true,decide_eq_true_eq] at h;omega
theorem mY (m a g:Int) (p c d:Bool) (L:List Op.Opt) (v:Value) (w:World) (hm:L.length≤maxLen) (hL:HoldsO w v L) :
  Calls prog 211 #[cN m a g p c d,v] w fun e w'=>∃ ad cp,e=.returned (.agg #[.int .i64 (ck m a g p c d L).1,.slice ad (ck m a g p c d L).2.length cp])∧w'.ownsRow w.heap.size 27 2 (.slice ad (ck m a g p c d L).2.length cp) (ck m a g p c d L).2.length (aj (ck m a g p c d L).2)∧Below w.heap.size w w':=by
 by_cases h:aK m a g=true∧Op.right L=true
 ·rw [show ck m a g p c d L=(mx (b_ m.toNat a.toNat g.toNat p c d L),fl (mx (b_ m.toNat a.toNat g.toNat p c d L)) (b_ m.toNat a.toNat g.toNat p c d L)) from if_pos h];obtain ⟨e1,e2,e3⟩:=nV h.1;have:=mN m.toNat a.toNat g.toNat p c d L v w hL (by rw [e1,e2,e3];exact h.1) h.2
  rw [e1,e2,e3] at this;exact this
 ·rw [show ck m a g p c d L=(0,[]) from if_neg h];refine (oE m a g p c d L v w hm hL ?_).mono fun e w' ⟨h1,h2⟩=>⟨none,0,h1,⟨rfl,Or.inl ⟨rfl,rfl⟩⟩,h2⟩
  cases h1:aK m a g
  ·exact Or.inl rfl
  ·right
   cases h2:Op.right L
   ·rfl
   ·exact absurd ⟨h1,h2⟩ h
theorem qA (v:Value) (F:List Op.Opt) (w:World) (hr:Op.right F=true) (h:HoldsO w v F):Calls prog 154 #[v] w fun e w'=>∃ ad cp,e=.returned (.slice ad F.length cp)∧w'.ownsRow w.heap.size 27 2 (.slice ad F.length cp) F.length (aj F)∧Below w.heap.size w w':=by
 have hl20:F.length≤20:=by
  unfold Op.right at hr;rw [Bool.and_eq_true] at hr;exact of_decide_eq_true hr.1
 have hok:∀ o ∈ F,o.data.size≤20:=by
  unfold Op.right at hr;rw [Bool.and_eq_true] at hr;exact fun o ho=>(of_decide_eq_true (List.all_eq_true.1 hr.2 o ho)).2.2
 have HH:=aa h;obtain ⟨va,vc,rfl⟩:=h.form;obtain ⟨n,hn⟩:∃ n,F.length=n:=⟨_,rfl⟩;rw [hn] at HH hl20 ⊢;clear h hr;go_enter func154,ntmps154
 go_wp2_with fail
 go_loopw [3,8] (fun x y wr=>∃ (i:Nat) (ad:Option Addr) (cp:Nat),i≤n∧y=.int .i64 i∧x=.slice ad (F.take i).length cp∧wr.ownsRow w.heap.size 27 2 (.slice ad (F.take i).length cp) (F.take i).length (aj (F.take i))∧Below w.heap.size w wr) (fun x y wr=>n - (intOf y).toNat)
 case atStart=>exact ⟨0,none,0,Nat.zero_le _,rfl,rfl,⟨rfl,Or.inl ⟨rfl,rfl⟩⟩,zC _ _⟩
 case round =>
  obtain ⟨i,ad,cp,hi,rfl,rfl,ho,hb⟩:=hrel;have hbs:=hb.size;have HO:=aa ho;have HB:=aa hb;by_cases hlt:i<n
  ·have d1:(i:Int)<(n:Int):=by omega
   have d0:(0:Int)≤(i:Int):=by omega
   obtain ⟨g,⟨cp',hv⟩,hgl,k0,k1⟩:=HoldsO.at ((uh HH).below hb rfl) i (by omega);injection hv with hv hv2 hv3;subst hv hv3;clear hv2;have hsz:=hok (F[i]'(by omega)) (List.getElem_mem _);have HS:Hid (F.take (i+1)=F.take i ++ [F[i]'(by omega)]):=aa (List.take_succ_eq_append_getElem (by omega));have hLl:(F.take i).length≤i:=by rw [List.length_take];omega
   generalize F[i]'(by omega)=o at *;generalize F.take i=L at *;obtain ⟨kd,dt⟩:=o;dsimp only at k0 k1 hsz;have CS:=aa fun W=>iB kd dt W hsz
   clear ho hb HH hok;go_wp2_with fail
   refine (uh CS _).mono ?_;rintro e w5 ⟨rfl,hb5⟩;have HB5:=aa ((((uh HB).alloc hbs _)).trans (hb5.mono (zE hbs (by simp))));have HO5:=aa (aP ((uh HO).alloc _) hb5);have hbs5:=(uh HB5).size;clear hb5
   go_wp2_with (first
    | (at_builtin;refine cD rfl _ _ rfl w.heap.size (.slice ad L.length cp) L L.length rfl rfl (uh HO5) kd dt rfl (by omega) hbs5 ?_;rintro v6 w6 ho6 hg6;obtain ⟨a6,c6,rfl⟩:=af ho6))
   have hb6:Below w.heap.size w w6:=((uh HB5).alloc hbs5 _).grown hg6 (by simp;omega) (fun q hq=>(World.ownsRow.lt (uh HO5) q hq).1);go_roundw
   case rel=>exact ⟨i+1,a6,c6,by omega,by go_num,by rw [uh HS,List.length_append];rfl,by rw [uh HS,List.length_append];exact ho6,hb6⟩
   case measure=>simp [intOf];omega
  ·have e:i=n:=by omega
   subst e;have HT:Hid (F.take i=F):=aa (List.take_of_length_le (by omega));clear ho hb HH;go_wp2
   go_ret
   rw [uh HT] at HO ⊢;rw [hn] at HO ⊢;exact ⟨ad,cp,rfl,uh HO,uh HB⟩
theorem qB (now:Int) (w:World):Calls prog 130 #[.int .i64 now] w fun e w'=>e=.returned (.bool (al 0 1000000000 now))∧w'=w:=by
 have C:=aa (cE now 0 1000000000 w);go_enter func130,ntmps130
 go_wp2_with fail
 refine (uh C).mono ?_;rintro r ws ⟨rfl,hws⟩;replace hws:=hws.symm;subst hws;go_wp2
 go_ret
 exact ⟨rfl,rfl⟩
end Go.Proofs.YtjebigodbnefiaaGreatDoor
namespace Go.Proofs.YtjebigodbnefiaaGreatDoor
open Go.RowKit Go.Proofs.Tryz
abbrev vA (o:Op.Opt):Value:=.agg #[.int .i64 o.kind,.string o.data]
def IdxA (p:Op.Opt→Bool) (L:List Op.Opt) (r:Int):Prop:=(r=-1∧∀ j (h:j<L.length),p L[j]=false)∨∃ k,∃ h:k<L.length,r=(k:Int)∧p L[k]=true∧∀ j (h:j<L.length),j<k→p L[j]=false
theorem IdxA.any {p:Op.Opt→Bool} {L:List Op.Opt} {r:Int} (h:IdxA p L r):decide (0≤r)=L.any p:=by
 rcases h with ⟨rfl,h⟩ | ⟨k,hk,rfl,h,_⟩
 ·have:L.any p=false:=List.any_eq_false.2 fun x hx=>by
   obtain ⟨j,hj,rfl⟩:=List.getElem_of_mem hx;rw [h j hj];decide
  rw [this];rfl
 ·rw [List.any_eq_true.2 ⟨_,List.getElem_mem hk,h⟩];exact decide_eq_true (by omega)
theorem yU (lb:Array Value) (p:Op.Opt→Bool) (v:Value) (L:List Op.Opt) (w:World) (hl:L.length≤1000) (hL:HoldsO w v L)
  (hp:∀ (W:World) (x:Op.Opt),Below w.heap.size w W→Calls prog 225 (#[vA x] ++ lb) W fun e w'=>e=.returned (.bool (p x))∧Below W.heap.size W w') :
  Calls prog 227 #[v,.func (.func 225) #[] lb] w fun e w'=>∃ r:Int,e=.returned (.int .i64 r)∧IdxA p L r∧Below w.heap.size w w':=by
 have HL:=aa hL;obtain ⟨va,vc,rfl⟩:=hL.form;obtain ⟨n,hn⟩:∃ n,L.length=n:=⟨_,rfl⟩;rw [hn] at HL hl ⊢;clear hL;have HP:=aa hp;clear hp;go_enter func227,ntmps227
 go_wp2
 go_loopw [5,8] (fun _ y wr=>∃ k:Nat,k≤n∧y=.int .i64 k∧Hid (Below w.heap.size w wr∧∀ j (h:j<L.length),j<k→p L[j]=false)) (fun _ y _=>n - (intOf y).toNat)
 case atStart=>exact ⟨0,Nat.zero_le _,rfl,aa ⟨zC _ _,fun j _ h=>absurd h (Nat.not_lt_zero _)⟩⟩
 case round =>
  obtain ⟨k,hk,rfl,HB⟩:=hrel;by_cases hlt:k<n
  ·have d1:(k:Int)<(n:Int):=by omega
   have d0:(0:Int)≤(k:Int):=by omega
   obtain ⟨G,⟨cp',hv⟩,hgl,k0,k1⟩:=HoldsO.at ((uh HL).below (uh HB).1 rfl) k (by omega);injection hv with hv hv2 hv3;subst hv hv3;clear hv2;have hcall:=uh HP wr (L[k]'(by omega)) (uh HB).1;have HK:Hid (∀ b,p (L[k]'(by omega))=b→p (L[k]'(by omega))=b):=aa fun _ h=>h
   obtain ⟨o,ho⟩:∃ o,L[k]'(by omega)=o:=⟨_,rfl⟩;rw [ho] at k0 k1 hcall;have HO:=aa ho;clear ho HK;obtain ⟨kd,dt⟩:=o;dsimp only at k0 k1;cases hq:p ⟨kd,dt⟩ with
   | true =>
    rw [hq] at hcall;have HQ:=aa hq;clear hq;go_wp2_with fail
    refine hcall.mono ?_;rintro e w' ⟨rfl,hb'⟩;clear hcall;go_wp2
    go_ret
    refine ⟨(k:Int),rfl,Or.inr ⟨k,by omega,rfl,by rw [uh HO];exact uh HQ,(uh HB).2⟩,(uh HB).1.trans (hb'.mono (uh HB).1.size)⟩
   | false =>
    rw [hq] at hcall;have HQ:=aa hq;clear hq;go_wp2_with fail
    refine hcall.mono ?_;rintro e w' ⟨rfl,hb'⟩;clear hcall;go_wp2_with fail
    go_roundw
    case rel =>
     refine ⟨k+1,by omega,by go_num,aa ⟨(uh HB).1.trans (hb'.mono (uh HB).1.size),fun j hj hjk=>?_⟩⟩;by_cases e:j=k
     ·subst e;rw [uh HO];exact uh HQ
     ·exact (uh HB).2 j hj (by omega)
    case measure=>simp [intOf];omega
  ·have d1:¬ (k:Int)<(n:Int):=by omega
   go_wp2
   go_ret
   exact ⟨-1,rfl,Or.inl ⟨rfl,fun j hj=>(uh HB).2 j hj (by omega)⟩,(uh HB).1⟩
theorem yV (lb:Array Value) (p:Op.Opt→Bool) (v:Value) (L:List Op.Opt) (w:World) (hl:L.length≤1000) (hL:HoldsO w v L)
  (hp:∀ (W:World) (x:Op.Opt),Below w.heap.size w W→Calls prog 223 (#[vA x] ++ lb) W fun e w'=>e=.returned (.bool (p x))∧Below W.heap.size W w') :
  Calls prog 227 #[v,.func (.func 223) #[] lb] w fun e w'=>∃ r:Int,e=.returned (.int .i64 r)∧IdxA p L r∧Below w.heap.size w w':=by
 have HL:=aa hL;obtain ⟨va,vc,rfl⟩:=hL.form;obtain ⟨n,hn⟩:∃ n,L.length=n:=⟨_,rfl⟩;rw [hn] at HL hl ⊢;clear hL;have HP:=aa hp;clear hp;go_enter func227,ntmps227
 go_wp2
 go_loopw [5,8] (fun _ y wr=>∃ k:Nat,k≤n∧y=.int .i64 k∧Hid (Below w.heap.size w wr∧∀ j (h:j<L.length),j<k→p L[j]=false)) (fun _ y _=>n - (intOf y).toNat)
 case atStart=>exact ⟨0,Nat.zero_le _,rfl,aa ⟨zC _ _,fun j _ h=>absurd h (Nat.not_lt_zero _)⟩⟩
 case round =>
  obtain ⟨k,hk,rfl,HB⟩:=hrel;by_cases hlt:k<n
  ·have d1:(k:Int)<(n:Int):=by omega
   have d0:(0:Int)≤(k:Int):=by omega
   obtain ⟨G,⟨cp',hv⟩,hgl,k0,k1⟩:=HoldsO.at ((uh HL).below (uh HB).1 rfl) k (by omega);injection hv with hv hv2 hv3;subst hv hv3;clear hv2;have hcall:=uh HP wr (L[k]'(by omega)) (uh HB).1;have HK:Hid (∀ b,p (L[k]'(by omega))=b→p (L[k]'(by omega))=b):=aa fun _ h=>h
   obtain ⟨o,ho⟩:∃ o,L[k]'(by omega)=o:=⟨_,rfl⟩;rw [ho] at k0 k1 hcall;have HO:=aa ho;clear ho HK;obtain ⟨kd,dt⟩:=o;dsimp only at k0 k1;cases hq:p ⟨kd,dt⟩ with
   | true =>
    rw [hq] at hcall;have HQ:=aa hq;clear hq;go_wp2_with fail
    refine hcall.mono ?_;rintro e w' ⟨rfl,hb'⟩;clear hcall;go_wp2
    go_ret
    refine ⟨(k:Int),rfl,Or.inr ⟨k,by omega,rfl,by rw [uh HO];exact uh HQ,(uh HB).2⟩,(uh HB).1.trans (hb'.mono (uh HB).1.size)⟩
   | false =>
    rw [hq] at hcall;have HQ:=aa hq;clear hq;go_wp2_with fail
    refine hcall.mono ?_;rintro e w' ⟨rfl,hb'⟩;clear hcall;go_wp2_with fail
    go_roundw
    case rel =>
     refine ⟨k+1,by omega,by go_num,aa ⟨(uh HB).1.trans (hb'.mono (uh HB).1.size),fun j hj hjk=>?_⟩⟩;by_cases e:j=k
     ·subst e;rw [uh HO];exact uh HQ
     ·exact (uh HB).2 j hj (by omega)
    case measure=>simp [intOf];omega
  ·have d1:¬ (k:Int)<(n:Int):=by omega
   go_wp2
   go_ret
   exact ⟨-1,rfl,Or.inl ⟨rfl,fun j hj=>(uh HB).2 j hj (by omega)⟩,(uh HB).1⟩
theorem yW (lb:Array Value) (p:Op.Opt→Bool) (v:Value) (L:List Op.Opt) (w:World) (hl:L.length≤1000) (hL:HoldsO w v L)
  (hp:∀ (W:World) (x:Op.Opt),Below w.heap.size w W→Calls prog 225 (#[vA x] ++ lb) W fun e w'=>e=.returned (.bool (p x))∧Below W.heap.size W w') :
  Calls prog 224 #[v,.func (.func 225) #[] lb] w fun e w'=>e=.returned (.bool (L.any p))∧Below w.heap.size w w':=by
 have C:=aa (yU lb p v L w hl hL hp);clear hp hL;go_enter func224,ntmps224
 go_wp2_with fail
 refine (uh C).mono ?_;rintro e w' ⟨r,rfl,hr,hb⟩;have HR:=aa hr.any;clear hr C;go_wp2
 go_ret
 refine ⟨?_,hb⟩;rw [← uh HR];rfl
theorem inK (x:Op.Opt) (k:Int) (O:Nat) (W:World) (h:W.cell? ⟨O,0,none⟩=some (.int .i64 k)) :
  Calls prog 225 #[vA x,.pointer (some ⟨O,0,none⟩)] W fun e w'=>e=.returned (.bool (x.kind == k))∧Below W.heap.size W w':=by
 have hlt:=World.block_lt_of_cell? W _ h;have hne:¬ (O=W.heap.size):=Nat.ne_of_lt hlt;have hne2:¬ (W.heap.size=O):=fun e=>hne e.symm
 obtain ⟨kd,dt⟩:=x;have c2:(W.alloc (.cells #[.int .i64 kd,.string dt] 27)).cell? ⟨O,0,none⟩=some (.int .i64 k):=by
  rw [((zC W.heap.size W).alloc (zD _) _).cell (p:=⟨O,0,none⟩) hlt];exact h
 go_enter func225,ntmps225
 go_wp2
 go_ret
 exact ⟨rfl,(zC _ _).alloc (zD _) _⟩
theorem yX (x:Op.Opt) (v:Value) (Os:List Op.Opt) (O:Nat) (W:World) (hl:Os.length≤1000) (h:W.cell? ⟨O,0,none⟩=some v) (hO:HoldsO W v Os) :
  Calls prog 223 #[vA x,.pointer (some ⟨O,0,none⟩)] W fun e w'=>e=.returned (.bool (!(Os.any fun y=>y.kind == x.kind)))∧Below W.heap.size W w':=by
 have hlt:=World.block_lt_of_cell? W _ h;obtain ⟨kd,dt⟩:=x;have hbA:Below W.heap.size W (W.alloc (.cells #[.int .i64 kd,.string dt] 27)):=(zC _ _).alloc (zD _) _;have c2:(W.alloc (.cells #[.int .i64 kd,.string dt] 27)).cell? ⟨O,0,none⟩=some v:=by
  rw [hbA.cell (p:=⟨O,0,none⟩) hlt];exact h
 have hx:(W.alloc (.cells #[.int .i64 kd,.string dt] 27)).cell? ⟨W.heap.size,0,none⟩=some (.int .i64 kd):=by
  rw [cr (zF W _)];rfl
 have hxl:W.heap.size<(W.alloc (.cells #[.int .i64 kd,.string dt] 27)).heap.size:=by simp
 have C:=aa (yW #[.pointer (some ⟨W.heap.size,0,none⟩)] (fun y=>y.kind == kd) v Os (W.alloc (.cells #[.int .i64 kd,.string dt] 27)) hl (hO.below hbA rfl) (fun W' y hb=>inK y kd W.heap.size W' ((hb.cell (p:=⟨W.heap.size,0,none⟩) hxl).trans hx)));obtain ⟨va,vc,rfl⟩:=hO.form;clear hx hxl hO h hlt;go_enter func223,ntmps223
 go_wp2_with fail
 refine (uh C).mono ?_;rintro e w' ⟨rfl,hb⟩;clear C;go_wp2
 go_ret
 exact ⟨rfl,hbA.trans (hb.mono hbA.size)⟩
theorem ga {T:TypeId} {g:Nat}:∀ (vs:List Value) (o:Nat) (W:World) (cur:Array Value),W.heap[g]?=some (.cells cur T)→o+vs.length≤cur.size →
  ∃ cur',(W.setCells g o vs).heap[g]?=some (.cells cur' T)∧cur'.size=cur.size∧∀ k,k<o→cur'[k]?=cur[k]?
 | [],_,_,cur,h,_=>⟨cur,h,rfl,fun _ _=>rfl⟩
 | v :: vs,o,W,cur,h,hl=>by
  rw [List.length_cons] at hl;obtain ⟨cur',h1,h2,h3⟩:=ga vs (o+1) (W.setCell ⟨g,o,none⟩ v) (cur.setIfInBounds o v) (zH _ _ o _ _ v h) (by rw [Array.size_setIfInBounds];omega);exact ⟨cur',h1,by rw [h2,Array.size_setIfInBounds],fun k hk=>by rw [h3 k (by omega),Array.getElem?_setIfInBounds,if_neg (by omega)]⟩
theorem jx {n g:Nat} {a:World} (hg:n≤g):∀ (vs:List Value) (o:Nat) (W:World),Below n a W→Below n a (W.setCells g o vs)
 | [],_,_,h=>h
 | v :: vs,o,W,h=>jx hg vs (o+1) (W.setCell ⟨g,o,none⟩ v) (h.setCell (p:=⟨g,o,none⟩) hg v)
theorem oO (n:Nat):((Builtin.zeroCells #[.int .i64 0,.string ⟨#[]⟩] n).toList.length=n*2)∧∀ u ∈ (Builtin.zeroCells #[.int .i64 0,.string ⟨#[]⟩] n).toList,u.oneCell'=true:=by
 refine ⟨by simp [Builtin.zeroCells],fun u hu=>?_⟩;simp [Builtin.zeroCells] at hu;obtain ⟨i,_,rfl⟩:=hu;have h2:i % 2=0∨i % 2=1:=by omega
 rcases h2 with h | h<;>rw [h]<;>rfl
theorem m_ (w:World) (ty:TypeId) (b o n c:Nat) (hn:0<n) (hc:∀ j,j<n*2→(w.cell? ⟨b,o+j,none⟩).isSome=true) (hf:∀ j,j<n*2→w.frozen? ⟨b,o+j,none⟩=false) :
  ∃ zs:List Value,zs.length=n*2∧(Builtin.clear_ #[28] ty #[.slice (some ⟨b,o,none⟩) n c]).run prog w=.ok (.tuple #[]) (w.setCells b o zs):=by
 obtain ⟨h1,h2⟩:=oO n;refine ⟨_,h1,?_⟩;have hst:=run_storeCells_cells (P:=prog) b o (Builtin.zeroCells #[.int .i64 0,.string ⟨#[]⟩] n).toList 0 w (by rw [h1];simpa using hc) (by rw [h1];simpa using hf) h2;simp only [Nat.add_zero] at hst;obtain ⟨m,rfl⟩:∃ m,n=m+1:=⟨n - 1,by omega⟩;simp [Builtin.clear_,run_underlying underlying28,Value.cells,hst]
theorem nY:prog.elem 28=27:=by kernel_rfl
structure Dk (q:World) (base G cap n:Nat) (L K:List Op.Opt) (j:Nat) (z:World):Prop where
 b:Below base q z
 g:∃ cur,z.heap[G]?=some (.cells cur 27)∧cur.size=cap*2∧(∀ t,t<K.length*2→cur[t]?=(aj K)[t]?)∧∀ t,j*2≤t→t<n*2→cur[t]?=(aj L)[t]?
variable {q z z':World} {base G cap n j:Nat} {L K:List Op.Opt}
theorem Dk.step (h:Dk q base G cap n L K j z) (hbs:base≤z.heap.size) (hb:Below z.heap.size z z'):Dk q base G cap n L K j z':=by
 obtain ⟨cur,h1,h2⟩:=h.g;exact ⟨h.b.trans (hb.mono hbs),cur,(hb.block _ (ge.1 h1).1).trans h1,h2⟩
theorem Dk.lt (h:Dk q base G cap n L K j z):G<z.heap.size:=by
 obtain ⟨cur,h1,_⟩:=h.g;exact (ge.1 h1).1
theorem Dk.get (h:Dk q base G cap n L K j z) (hL:L.length=n) (hj:j<n):z.cell? ⟨G,j*2,none⟩=some (.int .i64 (L[j]'(by omega)).kind)∧z.cell? ⟨G,j*2+1,none⟩=some (.string (L[j]'(by omega)).data):=by
 obtain ⟨cur,h1,_,_,h4⟩:=h.g;have hg:=bW L j _ (List.getElem?_eq_getElem (by omega));exact ⟨by rw [cr h1,h4 _ (by omega) (by omega)];exact hg.1,by rw [cr h1,h4 _ (by omega) (by omega)];exact hg.2⟩
theorem Dk.skip (h:Dk q base G cap n L K j z):Dk q base G cap n L K (j+1) z:=by
 obtain ⟨cur,h1,h2,h3,h4⟩:=h.g;exact ⟨h.b,cur,h1,h2,h3,fun t ht hn=>h4 t (by omega) hn⟩
theorem Dk.keep (h:Dk q base G cap n L K j z) (hG:base≤G) (hK:K.length≤j) (hj:j<n) (hc:n≤cap) (o:Op.Opt):Dk q base G cap n L (K ++ [o]) (j+1) ((z.setCell ⟨G,K.length*2,none⟩ (.int .i64 o.kind)).setCell ⟨G,K.length*2+1,none⟩ (.string o.data)):=by
 obtain ⟨cur,h1,h2,h3,h4⟩:=h.g;have e1:=zH z G (K.length*2) _ _ (.int .i64 o.kind) h1;have e2:=zH _ G (K.length*2+1) _ _ (.string o.data) e1;refine ⟨(h.b.setCell (p:=⟨G,K.length*2,none⟩) hG _).setCell (p:=⟨G,K.length*2+1,none⟩) hG _,_,e2,by rw [Array.size_setIfInBounds,Array.size_setIfInBounds];exact h2,fun t ht=>?_,fun t ht hn=>?_⟩
 ·rw [List.length_append,List.length_singleton] at ht;rw [bV,Array.getElem?_setIfInBounds,Array.getElem?_setIfInBounds,Array.size_setIfInBounds];by_cases t1:K.length*2+1=t
  ·rw [if_pos t1,if_pos (by omega),List.getElem?_append_right (by rw [bU];omega),bU,show t - K.length*2=1 by omega];rfl
  ·rw [if_neg t1];by_cases t0:K.length*2=t
   ·rw [if_pos t0,if_pos (by omega),List.getElem?_append_right (by rw [bU];omega),bU,show t - K.length*2=0 by omega];rfl
   ·rw [if_neg t0,List.getElem?_append_left (by rw [bU];omega)];exact h3 t (by omega)
 ·rw [Array.getElem?_setIfInBounds,Array.getElem?_setIfInBounds,Array.size_setIfInBounds,if_neg (by omega),if_neg (by omega)];exact h4 t (by omega) hn
theorem jV (p:Op.Opt→Bool) (L:List Op.Opt) (j:Nat) (hj:j<L.length):(L.take (j+1)).filter (fun o=>!p o)=(L.take j).filter (fun o=>!p o) ++ (if p L[j]=true then [] else [L[j]]):=by
 rw [List.take_succ_eq_append_getElem hj,List.filter_append];congr 1
 cases h:p L[j]<;>simp [h]
theorem qC (p:Op.Opt→Bool) (L:List Op.Opt) (h:∀ j (hj:j<L.length),p L[j]=false):L.filter (fun o=>!p o)=L :=
 List.filter_eq_self.2 fun x hx=>by
  obtain ⟨j,hj,rfl⟩:=List.getElem_of_mem hx;rw [h j hj];rfl
theorem yY (lb:Array Value) (p:Op.Opt→Bool) (v:Value) (L:List Op.Opt) (base:Nat) (q:World) (hbase:base≤q.heap.size) (hl:L.length≤20) (ho:q.ownsRow base 27 2 v L.length (aj L))
  (hp:∀ (W:World) (x:Op.Opt),Below base q W→Calls prog 223 (#[vA x] ++ lb) W fun e w'=>e=.returned (.bool (p x))∧Below W.heap.size W w') :
  Calls prog 222 #[v,.func (.func 223) #[] lb] q fun e q'=>∃ v',e=.returned v'∧q'.ownsRow base 27 2 v' (L.filter fun o=>!p o).length (aj (L.filter fun o=>!p o))∧Below base q q':=by
 have C:=aa (yV lb p v L q (by omega) (HoldsO.own ho) (fun W x hb=>hp W x (hb.mono hbase)));have HO:=aa ho;have HP:=aa hp;obtain ⟨va,vc,rfl⟩:=af ho;clear hp ho;obtain ⟨n,hn⟩:∃ n,L.length=n:=⟨_,rfl⟩;rw [hn] at C HO hl ⊢;go_enter func222,ntmps222
 go_wp2_with fail
 refine (uh C).mono ?_;rintro e w1 ⟨r,rfl,hr,hb⟩;rcases hr with ⟨rfl,hall⟩ | ⟨k,hk,rfl,hpk,hall⟩
 ·have HF:=aa (qC p L hall);have HB:=aa hb;clear hb hall C HP;go_wp2
  go_ret
  refine ⟨_,rfl,?_,(uh HB).mono hbase⟩;rw [uh HF,hn];exact aP (uh HO) (uh HB)
 ·have hne:((k:Int) == -1)=false:=beq_eq_false_iff_ne.2 (by omega);obtain ⟨G,cur,ev,hG,hgq,hnc,hcm,hcs,htk⟩:∃ G cur,va=some ⟨G,0,none⟩∧base≤G∧q.heap[G]?=some (.cells cur 27)∧n≤vc∧vc≤maxLen∧cur.size=vc*2∧cur.toList.take (n*2)=aj L:=by
   rcases (uh HO).2 with ⟨_,e0⟩ | ⟨G,cap,cur,e1,e2,e3,e4,e5,e6,e7⟩
   ·omega
   ·cases e1;exact ⟨G,cur,rfl,e2,e3,e4,e5,e6,e7⟩
  subst ev;have HK0:Hid (((L.take (k+1)).filter fun o=>!p o)=L.take k):=aa (by
   rw [jV p L k hk,if_pos hpk,List.append_nil];refine List.filter_eq_self.2 fun x hx=>?_
   obtain ⟨j,hj,rfl⟩:=List.mem_take_iff_getElem.1 hx;rw [hall j (by omega) (by omega)];rfl)
  have hD0:Dk q base G vc n L (L.take k) (k+1) w1:=by
   have hlook:∀ t,t<n*2→cur[t]?=(aj L)[t]?:=fun t ht=>by
    rw [← htk,List.getElem?_take,if_pos ht,Array.getElem?_toList]
   refine ⟨hb.mono hbase,cur,(hb.block _ (ge.1 hgq).1).trans hgq,hcs,fun t ht=>?_,fun t _ ht=>hlook t ht⟩;rw [List.length_take] at ht;rw [hlook t (by omega)];conv=>lhs;rw [← List.take_append_drop k L,bV]
   rw [List.getElem?_append_left (by rw [bU,List.length_take];omega)]
  have HD0:=aa hD0;have hkn:k<n:=by omega
  have HM:=aa (zA hcm hcs);clear hb hall hpk hD0 htk hgq C HO hcm hcs;go_wp2_with fail
  go_loopw [5,6] (fun x y wr=>∃ j:Nat,k<j∧j≤n∧y=.int .i64 j∧x=.int .i64 (((L.take j).filter fun o=>!p o).length:Nat)∧((L.take j).filter fun o=>!p o).length<j∧base≤wr.heap.size∧Hid (Dk q base G vc n L ((L.take j).filter fun o=>!p o) j wr)) (fun _ y _=>n - (intOf y).toNat)
  case atStart =>
   refine ⟨k+1,by omega,by omega,by go_num,?_,?_,?_,?_⟩
   ·rw [uh HK0,List.length_take,Nat.min_eq_left (by omega)]
   ·rw [uh HK0,List.length_take];omega
   ·exact zE hbase (by have:=(uh HD0).lt;have:=(uh HD0).b.size;omega:q.heap.size≤w1.heap.size)
   ·rw [uh HK0];exact HD0
  case round =>
   obtain ⟨j,hkj,hjn,rfl,rfl,hKj,hbw,HD⟩:=hrel;clear HD0 HK0;obtain ⟨K,hK⟩:∃ K,((L.take j).filter fun o=>!p o)=K:=⟨_,rfl⟩;rw [hK] at hKj HD;by_cases hlt:j<n
   ·have d1:(j:Int)<(n:Int):=by omega
    have d0:(0:Int)≤(j:Int):=by omega
    have hFs:=jV p L j (by omega);rw [hK] at hFs;have HKS:=aa hFs;obtain ⟨k0,k1⟩:=(uh HD).get hn hlt;have hcall:=aa fun W hb=>uh HP W (L[j]'(by omega)) hb
    obtain ⟨o,ho⟩:∃ o,L[j]'(by omega)=o:=⟨_,rfl⟩;rw [ho] at k0 k1 hcall HKS;have hGl:=(uh HD).lt;have hne1:¬ (G=wr.heap.size):=by omega
    have hne2:¬ (wr.heap.size=G):=by omega
    rw [hK];clear hK ho hFs HP;obtain ⟨kd,dt⟩:=o;dsimp only at k0 k1;go_upto_region 8 with fail
    refine aI (fun z=>Dk q base G vc n L K j z∧z.heap[wr.heap.size]?=some (.cells #[.int .i64 kd,.string dt] 27)∧base≤z.heap.size) ?_ ?_
    ·have hbA:=(zC wr.heap.size wr).alloc (zD _) (.cells #[.int .i64 kd,.string dt] 27);exact ⟨(uh HD).step hbw hbA,zF wr _,zE hbw hbA.size⟩
    intro z1 hz1;generalize wr.heap.size=N at *;have HZ:=aa hz1;have m0:z1.cell? ⟨N,0,none⟩=some (.int .i64 kd):=by rw [cr hz1.2.1];rfl
    have m1:z1.cell? ⟨N,1,none⟩=some (.string dt):=by rw [cr hz1.2.1];rfl
    clear hz1 HD k0 k1;go_wp2_with fail
    refine (uh hcall _ (uh HZ).1.b).mono ?_;rintro e z2 ⟨rfl,hb2⟩;clear hcall m0 m1;have hz2:Dk q base G vc n L K j z2∧z2.heap[N]?=some (.cells #[.int .i64 kd,.string dt] 27)∧base≤z2.heap.size:=⟨(uh HZ).1.step (uh HZ).2.2 hb2,(hb2.block _ (ge.1 (uh HZ).2.1).1).trans (uh HZ).2.1,zE (uh HZ).2.2 hb2.size⟩;have H2:=aa hz2;have m0:z2.cell? ⟨N,0,none⟩=some (.int .i64 kd):=by rw [cr hz2.2.1];rfl
    have m1:z2.cell? ⟨N,1,none⟩=some (.string dt):=by rw [cr hz2.2.1];rfl
    clear hz2 hb2 HZ;cases hq:p ⟨kd,dt⟩ with
    | true =>
     rw [hq,if_pos rfl,List.append_nil] at HKS;clear hq;go_wp2_with fail
     go_roundw
     case rel =>
      refine ⟨j+1,by omega,by omega,by go_num,?_,?_,(uh H2).2.2,?_⟩
      ·rw [uh HKS]
      ·rw [uh HKS];omega
      ·rw [uh HKS];exact aa (uh H2).1.skip
     case measure=>simp [intOf];omega
    | false =>
     rw [hq,if_neg (by decide)] at HKS;clear hq;obtain ⟨c3,hc3,hs3,_⟩:=(uh H2).1.g;have e0:(z2.cell? ⟨G,K.length*2,none⟩).isSome=true:=by rw [cr hc3,Array.getElem?_eq_getElem (by omega)];rfl
     have e1:(z2.cell? ⟨G,K.length*2+1,none⟩).isSome=true:=by rw [cr hc3,Array.getElem?_eq_getElem (by omega)];rfl
     obtain ⟨y0,hy0⟩:=Option.isSome_iff_exists.1 e0;obtain ⟨y1,hy1⟩:=Option.isSome_iff_exists.1 e1;have f0:=aX hc3 (K.length*2);have f1:=aX hc3 (K.length*2+1);have dK:(K.length:Int)<(n:Int):=by omega
     clear e0 e1 hc3 hs3;go_wp2_with fail
     go_roundw
     case rel =>
      refine ⟨j+1,by omega,by omega,by go_num,?_,?_,?_,?_⟩
      ·rw [uh HKS,List.length_append];go_num
      ·rw [uh HKS,List.length_append];simp;omega
      ·simpa using (uh H2).2.2
      ·rw [uh HKS];exact aa ((uh H2).1.keep hG (by omega) hlt hnc ⟨kd,dt⟩)
     case measure=>simp [intOf];omega
   ·have d1:¬ ((j:Int)<(n:Int)):=by omega
    have ejn:j=n:=by omega
    subst ejn;have hKL:(L.filter fun o=>!p o)=K:=by
     rw [← hK,← hn,List.take_length]
    have HKL:=aa hKL;rw [hK];clear hK hKL HP;obtain ⟨c3,hc3,hs3,hlo3,_⟩:=(uh HD).g;obtain ⟨ys,hys⟩:∃ ys:Value,(.slice (some ⟨G,K.length*2,none⟩) (j - K.length) (vc - K.length):Value)=ys:=⟨_,rfl⟩;have hs1:∀ z:World,(Instr.slice 28 (.slice (some ⟨G,0,none⟩) j vc) (some (.int .i64 (K.length:Int))) none none).run prog z=.ok ys z:=fun z=>by
     rw [← hys,run_slice_l (P:=prog) (w:=z) 28 _ j vc (by rw [nY];exact underlying28) .i64 (K.length:Int) (by omega) (by omega),nY,Tryz.sizeOf27 z];have:¬ vc=K.length:=by omega
     simp [Result.andThen,sliced,Addr.add,this];omega
    have hs2:∀ z:World,(Instr.slice 28 (.slice (some ⟨G,0,none⟩) j vc) none (some (.int .i64 (K.length:Int))) none).run prog z=.ok (.slice (some ⟨G,0,none⟩) K.length vc) z:=fun z=>by
     rw [run_slice_h (P:=prog) (w:=z) 28 _ j vc (by rw [nY];exact underlying28) .i64 (K.length:Int) (by omega) (by omega),nY,Tryz.sizeOf27 z];simp [Result.andThen,sliced,Addr.add]
    obtain ⟨zs,hzl,hcl⟩:=m_ wr 0 G (K.length*2) (j - K.length) (vc - K.length) (by omega) (fun t ht=>by rw [cr hc3,Array.getElem?_eq_getElem (by omega)];rfl) (fun t _=>aX hc3 _);rw [hys] at hcl;obtain ⟨c4,hc4,hs4,hl4⟩:=ga zs (K.length*2) wr c3 hc3 (by omega);have HE:Hid ((wr.setCells G (K.length*2) zs).ownsRow base 27 2 (.slice (some ⟨G,0,none⟩) K.length vc) K.length (aj K)∧Below base q (wr.setCells G (K.length*2) zs)):=aa ⟨⟨by rw [bU],Or.inr ⟨G,vc,c4,rfl,hG,hc4,by omega,(uh HM).1,by rw [hs4,hs3],by
     refine List.ext_getElem? fun t=>?_
     rw [List.getElem?_take];by_cases ht:t<K.length*2
     ·rw [if_pos ht,Array.getElem?_toList,hl4 t ht,hlo3 t ht]
     ·rw [if_neg ht,List.getElem?_eq_none (by rw [bU];omega)]⟩⟩,jx hG _ _ _ (uh HD).b⟩
    clear hys hc3 hs3 hlo3 hc4 hs4 hl4 hzl HD;go_wp2_with fail
    go_ret
    refine ⟨_,rfl,?_,(uh HE).2⟩;rw [uh HKL];exact (uh HE).1
theorem qD (v vo:Value) (L Os:List Op.Opt) (w:World) (hr:Op.right L=true) (hl:Os.length≤1000) (hL:HoldsO w v L) (hO:HoldsO w vo Os) :
  Calls prog 212 #[v,vo] w fun e w'=>∃ v',e=.returned v'∧w'.ownsRow w.heap.size 27 2 v' (gX L Os).length (aj (gX L Os))∧Below w.heap.size w w':=by
 have hl20:L.length≤20:=Op.right_len hr;obtain ⟨oa,oc,rfl⟩:=hO.form;have hbA:=(zC w.heap.size w).alloc (zD _) (.cells #[.slice oa Os.length oc] 28);have hx:(w.alloc (.cells #[.slice oa Os.length oc] 28)).cell? ⟨w.heap.size,0,none⟩=some (.slice oa Os.length oc):=by
  rw [cr (zF w _)];rfl
 have hxl:w.heap.size<(w.alloc (.cells #[.slice oa Os.length oc] 28)).heap.size:=by simp
 have CS:=aa (qA v L (w.alloc (.cells #[.slice oa Os.length oc] 28)) hr (hL.below hbA rfl));have HX:=aa (zA hx (zA hxl (zA (hO.below hbA rfl) hbA)));clear hx hxl hO hL;obtain ⟨w1,hw1⟩:∃ w1,w.alloc (.cells #[.slice oa Os.length oc] 28)=w1:=⟨_,rfl⟩;rw [hw1] at CS HX hbA;have HW:=aa hw1;clear hw1;have CD:Hid (∀ (W:World) (va:Option Addr) (vc:Nat),Below w1.heap.size w1 W→W.ownsRow w1.heap.size 27 2 (.slice va L.length vc) L.length (aj L)→Calls prog 222 #[.slice va L.length vc,.func (.func 223) #[] #[.pointer (some ⟨w.heap.size,0,none⟩)]] W fun e q'=>∃ v',e=.returned v'∧q'.ownsRow w1.heap.size 27 2 v' (gX L Os).length (aj (gX L Os))∧Below w1.heap.size W q'):=aa fun W va vc hb ho=>by
  have h:=yY #[.pointer (some ⟨w.heap.size,0,none⟩)] (fun x=>!(Os.any fun y=>y.kind == x.kind)) _ L w1.heap.size W hb.size hl20 ho (fun W' x hb'=>yX x _ Os w.heap.size W' hl (((hb.trans hb').cell (p:=⟨w.heap.size,0,none⟩) (uh HX).2.1).trans (uh HX).1) ((uh HX).2.2.1.below (hb.trans hb') rfl));have e:(L.filter fun o=>!(fun x:Op.Opt=>!(Os.any fun y=>y.kind == x.kind)) o)=gX L Os:=by
   unfold gX;congr 1
   funext o
   exact Bool.not_not _
  rw [e] at h;exact h
 have hbs:=hbA.size;go_enter func212,ntmps212
 go_upto_region 1 with fail
 rw [uh HW];clear HW;go_wp2_with fail
 refine (uh CS).mono ?_;rintro e w2 ⟨va,vc,rfl,ho2,hb2⟩;have CD2:=aa (uh CD w2 va vc hb2 ho2);have HB2:=aa hb2;clear hb2 ho2 CS CD;go_wp2_with fail
 refine (uh CD2).mono ?_;rintro e w3 ⟨v3,rfl,ho3,hb3⟩;have H3:=aa (zA ho3 hb3);clear ho3 hb3 CD2;go_wp2
 go_ret
 exact ⟨_,rfl,aE (uh H3).1 hbs,hbA.trans (((uh HB2).trans (uh H3).2).mono hbs)⟩
end Go.Proofs.YtjebigodbnefiaaGreatDoor
