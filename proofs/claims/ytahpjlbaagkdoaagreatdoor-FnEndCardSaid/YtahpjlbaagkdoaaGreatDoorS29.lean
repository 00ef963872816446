/- HrE StrO SpecOpt HrS -/
import Derived.Test.YtahpjlbaagkdoaaGreatDoorS28
set_option maxHeartbeats 16000000
set_option maxRecDepth 100000
set_option linter.unusedSimpArgs false
namespace Go.Proofs.YtahpjlbaagkdoaaGreatDoor
open Go.RowKit Go.Proofs.Tryz
structure Hb (w:World) (A X:Nat) (cs:Array Value) (p:Op.Pk) (z:World):Prop where
 a:z.heap[A]?=some (.cells cs 29)
 p:z.heap[A+1]?=some (.cells #[.int .i64 p.code,.int .i64 p.id,.string p.data] 35)
 x:z.heap[X]?=some (.cells eoZ 42)
 b:Below w.heap.size w z
theorem Hb.step {w:World} {A X:Nat} {cs:Array Value} {p:Op.Pk} {z z':World} (h:Hb w A X cs p z) (hb:Below z.heap.size z z'):Hb w A X cs p z' :=
 ⟨(hb.block _ (ge.1 h.a).1).trans h.a,(hb.block _ (ge.1 h.p).1).trans h.p,(hb.block _ (ge.1 h.x).1).trans h.x,h.b.trans (hb.mono h.b.size)⟩
theorem Hb.pc {w:World} {A X:Nat} {cs:Array Value} {p:Op.Pk} {z:World} (h:Hb w A X cs p z):z.cell? ⟨A+1,0,none⟩=some (.int .i64 p.code)∧z.cell? ⟨A+1,1,none⟩=some (.int .i64 p.id)∧z.cell? ⟨A+1,2,none⟩=some (.string p.data) :=
 ⟨by rw [cr h.p];rfl,by rw [cr h.p];rfl,by rw [cr h.p];rfl⟩
theorem iEndHear (e:En) (x1 x2:Option Addr) (y1 y2:Nat) (F1 F2:List Op.Opt) (p:Op.Pk) (now:Int) (w:World) (l1:F1.length≤1048576) (l2:F2.length≤1048576) (h1:HoldsO w (.slice x1 F1.length y1) F1) (h2:HoldsO w (.slice x2 F2.length y2) F2) (hEv:EvT w) (hNx:NxT w) (hSp:SpT w) (hEt:Et w) :
  Calls prog 13 #[.agg (enC e (.slice x1 F1.length y1) (.slice x2 F2.length y2)),.agg #[.int .i64 p.code,.int .i64 p.id,.string p.data],.int .i64 now] w fun r w'=>EvA w (hearF e F1 F2 p now) r w':=by
 have CR:=hide fun W (hb:Below w.heap.size w W)=>implEndRightE e x1 x2 y1 y2 F1 F2 W (by unfold maxLen;omega) (by unfold maxLen;omega) (h1.below hb rfl) (h2.below hb rfl)
 have CW:=hide fun W (hb:Below w.heap.size w W) (r:Op.right F1=true∧Op.right F2=true)=>iWork e x1 x2 y1 y2 F1 F2 now W r.1 r.2 (h1.below hb rfl) (h2.below hb rfl)
 have CT:=hide fun W=>iTime now W
 have CP:Hid (∀ W,Calls prog 44 #[.agg #[.int .i64 p.code,.int .i64 p.id,.string p.data]] W fun e w'=>e=.returned (.bool (Op.pok p))∧Below W.heap.size W w'):=hide fun W=>implPkRight_at p.code p.id p.data W
 clear h1 h2;have HF:=hide (fit0 (e:=e) (F1:=F1) (F2:=F2) (now:=now));have HG:=hide (enOk_rights (e:=e) (F1:=F1) (F2:=F2));have HV:=hide (And.intro hEv (And.intro hNx (And.intro hSp hEt)));clear hEv hNx hSp hEt;obtain ⟨hA,hP,hX,hb⟩:=start3r w (.cells (enC e (.slice x1 F1.length y1) (.slice x2 F2.length y2)) 29) (.cells #[.int .i64 p.code,.int .i64 p.id,.string p.data] 35) (.cells eoZ 42);obtain ⟨A,eA⟩:∃ A,w.heap.size=A:=⟨_,rfl⟩;have hXw0:w.heap.size≤A+1+1:=by omega
 rw [eA] at hA hP hX;have H0:=hide (And.intro hA (And.intro hP (And.intro hX hb)));clear hA hP hX hb;obtain ⟨RES,hRES⟩:∃ RES,hearF e F1 F2 p now=RES:=⟨_,rfl⟩;rw [hRES];have HR:=hide hRES;clear hRES;obtain ⟨ok1,hok1⟩:∃ b,enOk e F1 F2=b:=⟨_,rfl⟩;obtain ⟨ok2,hok2⟩:∃ b,within 0 1000000000 now=b:=⟨_,rfl⟩;obtain ⟨ok3,hok3⟩:∃ b,Op.pok p=b:=⟨_,rfl⟩;rw [hok1] at CR HF HG;rw [hok2] at CT HF;rw [hok3] at CP;have HO1:=hide hok1;have HO2:=hide hok2;have HO3:=hide hok3;clear hok1 hok2 hok3;obtain ⟨n1,e1⟩:∃ n,F1.length=n:=⟨_,rfl⟩;obtain ⟨n2,e2⟩:∃ n,F2.length=n:=⟨_,rfl⟩;rw [e1] at CR CW H0 ⊢;rw [e2] at CR CW H0 ⊢;go_enter func13,ntmps13
 go_upto_region 1 with fail
 obtain ⟨X,hXe⟩:∃ X,A+1+1=X:=⟨_,rfl⟩;have hXw:w.heap.size≤X:=by omega
 rw [hXe] at H0 ⊢;have HXA:=hide (And.intro eA hXe);clear hXe hXw0 eA;refine gen_world (Hb w A X (enC e (.slice x1 n1 y1) (.slice x2 n2 y2)) p) ?_ ?_
 ·exact ⟨(uh H0).1,(uh H0).2.1,(uh H0).2.2.1,(uh H0).2.2.2⟩
 clear H0;intro z hz;have HZ:=hide hz;clear hz
 go_wp2_with (first
  | (refine wpList_load_row rfl 29 (.tmp 3) rfl A rfl 29 (enC e (.slice x1 n1 y1) (.slice x2 n2 y2)) (0,0) _ (uh HZ).a underlying29 rfl infoE ?_))
 refine (uh CR _ (uh HZ).b).mono ?_;rintro r z1 ⟨rfl,hb1⟩;have H1:=hide ((uh HZ).step hb1);clear hb1 CR HZ;obtain ⟨p0,p1,p2⟩:=(uh H1).pc;cases ok1
 ·go_wp2_with (first
   | (refine wpList_buildTo rfl 42 _ rfl (some 23) rfl (eoC enZero (.slice none 0 0) (.slice none 0 0) (.slice none 0 0) (.slice none 0 0) 1) (by as_aux_lemma=>kernel_rfl) ?_)
    | (refine wpList_store_rowTo rfl 42 (.tmp 6) (.tmp 23) rfl rfl X (eoC enZero (.slice none 0 0) (.slice none 0 0) (.slice none 0 0) (.slice none 0 0) 1) rfl rfl 42 eoZ (uh H1).x infoEo rfl (eoC_all _ _ _ _ _ _ _ _ _ _ _ _ _ _) ?_))
  refine bodyPost_ret (v:=.agg (eoC enZero (.slice none 0 0) (.slice none 0 0) (.slice none 0 0) (.slice none 0 0) 1)) (by simp [results,results13,asAddr,Act.put,loadEo (setRow_heap z1 X _ (eoC enZero (.slice none 0 0) (.slice none 0 0) (.slice none 0 0) (.slice none 0 0) 1) _ _ (uh H1).x)]) rfl ?_;have hres:RES=eoErr 1:=by
   rw [← uh HR];unfold hearF;rw [if_neg (fun h=>by have:=h.1;rw [uh HO1] at this;exact absurd this (by simp))]
  rw [hres];exact evErr (below_row (uh H1).b hXw _) 1
 cases ok2
 ·go_wp2_with (first
   | (go_at_call 37;refine (uh CT _).mono ?_;rintro r ws ⟨rfl,hws⟩;replace hws:=hws.symm;subst hws)
   | (refine wpList_buildTo rfl 42 _ rfl (some 23) rfl (eoC enZero (.slice none 0 0) (.slice none 0 0) (.slice none 0 0) (.slice none 0 0) 1) (by as_aux_lemma=>kernel_rfl) ?_)
    | (refine wpList_store_rowTo rfl 42 (.tmp 6) (.tmp 23) rfl rfl X (eoC enZero (.slice none 0 0) (.slice none 0 0) (.slice none 0 0) (.slice none 0 0) 1) rfl rfl 42 eoZ (uh H1).x infoEo rfl (eoC_all _ _ _ _ _ _ _ _ _ _ _ _ _ _) ?_))
  refine bodyPost_ret (v:=.agg (eoC enZero (.slice none 0 0) (.slice none 0 0) (.slice none 0 0) (.slice none 0 0) 1)) (by simp [results,results13,asAddr,Act.put,loadEo (setRow_heap z1 X _ (eoC enZero (.slice none 0 0) (.slice none 0 0) (.slice none 0 0) (.slice none 0 0) 1) _ _ (uh H1).x)]) rfl ?_;have hres:RES=eoErr 1:=by
   rw [← uh HR];unfold hearF;rw [if_neg (fun h=>by have:=h.1;rw [uh HO1,uh HO2] at this;exact absurd this (by simp))]
  rw [hres];exact evErr (below_row (uh H1).b hXw _) 1
 go_wp2_with (first
  | (go_at_call 37;refine (uh CT _).mono ?_;rintro r ws ⟨rfl,hws⟩;replace hws:=hws.symm;subst hws))
 refine (uh CP _).mono ?_;rintro r z2 ⟨rfl,hb2⟩;have H2:=hide ((uh H1).step hb2);clear hb2 CP H1 p0 p1 p2 CT;cases ok3
 ·go_wp2_with (first
   | (refine wpList_buildTo rfl 42 _ rfl (some 23) rfl (eoC enZero (.slice none 0 0) (.slice none 0 0) (.slice none 0 0) (.slice none 0 0) 1) (by as_aux_lemma=>kernel_rfl) ?_)
    | (refine wpList_store_rowTo rfl 42 (.tmp 6) (.tmp 23) rfl rfl X (eoC enZero (.slice none 0 0) (.slice none 0 0) (.slice none 0 0) (.slice none 0 0) 1) rfl rfl 42 eoZ (uh H2).x infoEo rfl (eoC_all _ _ _ _ _ _ _ _ _ _ _ _ _ _) ?_))
  refine bodyPost_ret (v:=.agg (eoC enZero (.slice none 0 0) (.slice none 0 0) (.slice none 0 0) (.slice none 0 0) 1)) (by simp [results,results13,asAddr,Act.put,loadEo (setRow_heap z2 X _ (eoC enZero (.slice none 0 0) (.slice none 0 0) (.slice none 0 0) (.slice none 0 0) 1) _ _ (uh H2).x)]) rfl ?_;have hres:RES=eoErr 1:=by
   rw [← uh HR];unfold hearF;rw [if_neg (fun h=>by have:=h.2;rw [uh HO3] at this;exact absurd this (by simp))]
  rw [hres];exact evErr (below_row (uh H2).b hXw _) 1
 replace HF:=hide (uh HF (by first | rfl | trivial));replace CW:=hide fun W hb=>uh CW W hb (uh HG (by first | rfl | trivial))
 have c12:z2.cell? ⟨A,12,none⟩=some (.int .i64 e.st):=by rw [cr (uh H2).a];rfl
 have HOK:Hid ((enOk e F1 F2 && within 0 1000000000 now)=true∧Op.pok p=true):=hide ⟨by rw [uh HO1,uh HO2];rfl,uh HO3⟩;clear HG HO1 HO2 HO3;by_cases hs0:e.st=0
 ·rw [hs0] at c12
  go_wp2_with (first
   | (refine wpList_buildTo rfl 42 _ rfl (some 32) rfl (eoC enZero (.slice none 0 0) (.slice none 0 0) (.slice none 0 0) (.slice none 0 0) 8) (by as_aux_lemma=>kernel_rfl) ?_)
    | (refine wpList_store_rowTo rfl 42 (.tmp 6) (.tmp 32) rfl rfl X (eoC enZero (.slice none 0 0) (.slice none 0 0) (.slice none 0 0) (.slice none 0 0) 8) rfl rfl 42 eoZ (uh H2).x infoEo rfl (eoC_all _ _ _ _ _ _ _ _ _ _ _ _ _ _) ?_))
  refine bodyPost_ret (v:=.agg (eoC enZero (.slice none 0 0) (.slice none 0 0) (.slice none 0 0) (.slice none 0 0) 8)) (by simp [results,results13,asAddr,Act.put,loadEo (setRow_heap z2 X _ (eoC enZero (.slice none 0 0) (.slice none 0 0) (.slice none 0 0) (.slice none 0 0) 8) _ _ (uh H2).x)]) rfl ?_;have hres:RES=eoErr 8:=by
   rw [← uh HR];unfold hearF;rw [if_pos (uh HOK),if_pos (by omega)]
  rw [hres];exact evErr (below_row (uh H2).b hXw _) 8
 by_cases hs1:e.st=1
 ·rw [hs1] at c12
  go_wp2_with (first
   | (refine wpList_buildTo rfl 42 _ rfl (some 32) rfl (eoC enZero (.slice none 0 0) (.slice none 0 0) (.slice none 0 0) (.slice none 0 0) 8) (by as_aux_lemma=>kernel_rfl) ?_)
    | (refine wpList_store_rowTo rfl 42 (.tmp 6) (.tmp 32) rfl rfl X (eoC enZero (.slice none 0 0) (.slice none 0 0) (.slice none 0 0) (.slice none 0 0) 8) rfl rfl 42 eoZ (uh H2).x infoEo rfl (eoC_all _ _ _ _ _ _ _ _ _ _ _ _ _ _) ?_))
  refine bodyPost_ret (v:=.agg (eoC enZero (.slice none 0 0) (.slice none 0 0) (.slice none 0 0) (.slice none 0 0) 8)) (by simp [results,results13,asAddr,Act.put,loadEo (setRow_heap z2 X _ (eoC enZero (.slice none 0 0) (.slice none 0 0) (.slice none 0 0) (.slice none 0 0) 8) _ _ (uh H2).x)]) rfl ?_;have hres:RES=eoErr 8:=by
   rw [← uh HR];unfold hearF;rw [if_pos (uh HOK),if_pos (by omega)]
  rw [hres];exact evErr (below_row (uh H2).b hXw _) 8
 have hb0:(e.st == 0)=false:=beq_eq_false_iff_ne.2 hs0;have hb1:(e.st == 1)=false:=beq_eq_false_iff_ne.2 hs1;have HST:Hid (1<e.st):=hide (by have:=(uh HF).2.1.1;omega);clear hs0 hs1
 go_wp2_with (first
  | (refine wpList_load_row rfl 29 (.tmp 3) rfl A rfl 29 (enC e (.slice x1 n1 y1) (.slice x2 n2 y2)) (0,0) _ (uh H2).a underlying29 rfl infoE ?_))
 refine (uh CW _ (uh H2).b).mono ?_;rintro r z3 ⟨B,v1,v2,rfl,hL⟩;have HL:=hide hL;have hlow:=hL.low;have p0:=(hlow.cell (p:=⟨A+1,0,none⟩) (World.block_lt_of_cell? _ _ (uh H2).pc.1)).trans (uh H2).pc.1;have p1:=(hlow.cell (p:=⟨A+1,1,none⟩) (World.block_lt_of_cell? _ _ (uh H2).pc.2.1)).trans (uh H2).pc.2.1;have p2:=(hlow.cell (p:=⟨A+1,2,none⟩) (World.block_lt_of_cell? _ _ (uh H2).pc.2.2)).trans (uh H2).pc.2.2;have k31:=hL.cell (i:=31) rfl;have k32:=hL.cell (i:=32) rfl;have k33:=hL.cell (i:=33) rfl;have f31:=hL.frz 31;have f32:=hL.frz 32;have f33:=hL.frz 33;clear hL hlow CW c12;go_upto_region 7 with fail
 refine gen_world (fun z=>Lay 83 z2 z3 B (cxP now p [] (0,[]) nilS nilS) ⟨e,F1,F2,[],[]⟩ v1 v2 nilS nilS z) ((uh HL).cameP p.code p.id p.data) ?_;clear p0 p1 p2 k31 k32 k33 f31 f32 f33 HL;intro z4 hz4;have HL4:=hide hz4;have CK:=hide (iTake hz4 (uh HF).1 (uh HOK).2 (((uh HV).2.2.2.below (uh H2).b (uh HV).2.2.2.lt).below hz4.low (Nat.lt_of_lt_of_le (uh HV).2.2.2.lt (uh H2).b.size)));clear hz4;go_wp2_with fail
 refine (uh CK).mono ?_;rintro r z5 ⟨c',e',k,cd,rfl,hl,hok,herr⟩;have HL5:=hide hl;clear hl CK HL4;by_cases hcd:cd=0
 ·subst hcd;obtain ⟨hh,hk16,hfit,h6,h7,hst⟩:=hok rfl;have HH:=hide hh;have hE0:=iHappenAll z2 z3 B c' ⟨e',F1,F2,[],[]⟩ v1 v2 z5 (uh HL5) rfl rfl hfit k (evT k) (evT_at hk16) ((uh HV).1.below (uh H2).b) ((uh HV).2.1.below (uh H2).b) ((uh HV).2.2.1.below (uh H2).b) (fsmAll (evT_at hk16) (by show 0≤e'.st;rw [hst];exact (uh HF).2.1.1) (by show e'.st≤9;rw [hst];exact (uh HF).2.1.2) h6 h7).1 (fsmAll (c:=c') (evT_at hk16) (by show 0≤e'.st;rw [hst];exact (uh HF).2.1.1) (by show e'.st≤9;rw [hst];exact (uh HF).2.1.2) h6 h7).2;have CE:=hide hE0;clear hE0 hok herr hh h6 h7 hst hfit HL5 hk16;have hres:RES=evF c' ⟨e',F1,F2,[],[]⟩ (evT k):=by
   rw [← uh HR];unfold hearF;rw [if_pos (uh HOK),if_neg (by have:=uh HST;omega)];exact uh HH
  have HRS:=hide hres;clear hres HH;generalize evF c' ⟨e',F1,F2,[],[]⟩ (evT k)=EV at *;go_wp2_with fail
  refine (uh CE).mono ?_;rintro r z6 ⟨u1,u2,us,ut,rfl,hE'⟩;have hE:EvA z2 EV (.returned (.agg (eoC EV.e u1 u2 us ut EV.cd))) z6:=⟨u1,u2,us,ut,rfl,hE'⟩;clear hE';generalize eoC EV.e u1 u2 us ut EV.cd=cs at *;obtain ⟨hsz,hall,hX2,hEv⟩:=hE.up (uh H2).b (uh H2).x hXw;have HE2:=hide (And.intro hX2 hEv);clear hE hX2 hEv CE
  go_wp2_with (first
   | (refine wpList_store_rowTo rfl 42 (.tmp 6) (.tmp 51) rfl rfl X cs rfl rfl 42 eoZ (uh HE2).1 (by rw [hsz];exact infoEo) (by rw [hsz];rfl) hall ?_))
  refine bodyPost_ret (v:=.agg cs) (by simp [results,results13,asAddr,Act.put,loadEo (setRow_heap z6 X _ cs _ _ (uh HE2).1) hsz]) rfl ?_;rw [uh HRS];exact (uh HE2).2
 ·have hcb:(cd != 0)=true:=by simpa using hcd
  have hh:=herr hcd;have HH:=hide hh;have hb5:Below w.heap.size w z5:=(uh H2).b.trans ((uh HL5).low.mono (uh H2).b.size);have hX5:z5.heap[X]?=some (.cells eoZ 42):=((uh HL5).low.block _ (ge.1 (uh H2).x).1).trans (uh H2).x;have HX5:=hide (And.intro hX5 hb5);clear hh herr hok hcd hb5 hX5 HL5
  go_wp2_with (first
   | (refine wpList_buildTo rfl 42 _ rfl (some 48) rfl (eoC enZero (.slice none 0 0) (.slice none 0 0) (.slice none 0 0) (.slice none 0 0) cd) (by as_aux_lemma=>kernel_rfl) ?_)
   | (refine wpList_store_rowTo rfl 42 (.tmp 6) (.tmp 48) rfl rfl X (eoC enZero (.slice none 0 0) (.slice none 0 0) (.slice none 0 0) (.slice none 0 0) cd) rfl rfl 42 eoZ (uh HX5).1 infoEo rfl (eoC_all _ _ _ _ _ _ _ _ _ _ _ _ _ _) ?_))
  refine bodyPost_ret (v:=.agg (eoC enZero (.slice none 0 0) (.slice none 0 0) (.slice none 0 0) (.slice none 0 0) cd)) (by simp [results,results13,asAddr,Act.put,loadEo (setRow_heap z5 X _ (eoC enZero (.slice none 0 0) (.slice none 0 0) (.slice none 0 0) (.slice none 0 0) cd) _ _ (uh HX5).1)]) rfl ?_;have hres:RES=eoErr cd:=by
   rw [← uh HR];unfold hearF;rw [if_pos (uh HOK),if_neg (by have:=uh HST;omega)];exact uh HH
  rw [hres];exact evErr (below_row (uh HX5).2 hXw _) cd
theorem wrap_sm (x:Int) (h1:0≤x) (h2:x<9223372036854775808):wrap64 x=x:=by unfold wrap64;omega
theorem wU8 (c:UInt8):wrap64 (c.toNat:Int)=(c.toNat:Int):=wrap_sm _ (by omega) (by have:=c.toNat_lt;omega)
theorem wU8a:∀ c:UInt8,wrap64 (c.toNat:Int)=(c.toNat:Int):=wU8
theorem wI64a:∀ c:UInt8,IntKind.i64.wrap (c.toNat:Int)=(c.toNat:Int):=fun c=>by rw [IntKind.wrap_i64];have:=c.toNat_lt;omega
theorem txt_ext (t:ByteArray) (m n:Nat):t.extract m n=txt ((t.data.toList.drop m).take (n - m)):=by
 apply ByteArray.ext
 apply Array.ext'
 simp only [txt,ByteArray.data_extract,Array.toList_extract,List.extract_eq_take_drop]
theorem txt_end (U:ByteArray) (n:Nat):U.extract n U.size=txt (U.data.toList.drop n):=by
 have hl:=len_dat U;rw [txt_ext,List.take_of_length_le (by rw [List.length_drop];omega)]
theorem two_of {t:ByteArray} (h:2≤t.size):t.data.toList=t[0] :: t[1] :: t.data.toList.drop 2:=by
 have hl:=len_dat t;have e0:t.data.toList=t[0] :: t.data.toList.drop 1:=List.drop_eq_getElem_cons (i:=0) (l:=t.data.toList) (by omega);have e1:t.data.toList.drop 1=t[1] :: t.data.toList.drop 2:=List.drop_eq_getElem_cons (i:=1) (by omega);rw [← e1];exact e0
def RdOut (w w':World) (res:Option (List Op.Opt)) (e:Ending):Prop :=
  (res=none∧e=.returned (.tuple #[.slice none 0 0,.bool false])∧Below w.heap.size w w') ∨
    (∃ L ad cp,res=some L∧e=.returned (.tuple #[.slice ad L.length cp,.bool (Op.right L)])∧w'.ownsRow w.heap.size 116 2 (.slice ad L.length cp) L.length (ocells L)∧Below w.heap.size w w')
def tlen:Value→Nat
  | .string t=>t.size
  | _=>0
theorem map_step {k n:UInt8} {r:List UInt8} {out:List Op.Opt} (h:¬ (n.toNat<2∨r.length+2<n.toNat)) :
    (Op.rd (k :: n :: r)).map (out ++ ·)=(Op.rd (r.drop (n.toNat - 2))).map ((out ++ [⟨(k.toNat:Int),txt (r.take (n.toNat - 2))⟩]) ++ ·):=by
  rw [Op.rd_step h];cases Op.rd (r.drop (n.toNat - 2)) with
  | none=>rfl
  | some L=>simp
theorem specRead (t:ByteArray) (w:World) (h8:t.size≤8000) :
    Calls prog 95 #[.string t] w fun e w'=>RdOut w w' (Op.rd t.data.toList) e:=by
  obtain ⟨i0,hi0,hz0,hz1,hz2⟩:=oinfo;obtain ⟨RES,hRES⟩:∃ R,Op.rd t.data.toList=R:=⟨_,rfl⟩;rw [hRES];have HRES:=hide hRES;clear hRES;go_enter func95,ntmps95
  go_wp2_with fail
  go_loopw [0,4] (fun x y wr=>∃ (u:ByteArray) (out:List Op.Opt),x=.string u∧u.size≤8000∧out.length*2+u.size≤8000∧(∃ a c,y=.slice a out.length c)∧wr.ownsRow w.heap.size 116 2 y out.length (ocells out)∧(Op.rd u.data.toList).map (out ++ ·)=RES∧Below w.heap.size w wr) (fun x _ _=>tlen x)
  case atStart =>
    refine ⟨t,[],rfl,h8,by simpa using h8,⟨_,_,rfl⟩,World.ownsRow_lit w #[] 0 (by omega) (Nat.zero_le _) rfl,?_,(Below.refl _ _).alloc (Nat.le_refl _) _⟩;rw [← uh HRES];cases Op.rd t.data.toList with
    | none=>rfl
    | some L=>rfl
  case round =>
    obtain ⟨u,out,rfl,hu8,hsum,⟨ya,yc,rfl⟩,hown,hacc,hb⟩:=hrel;have hbs:=hb.size;have HOW:=hide hown;clear hown HRES;by_cases h0:u.size=0
    · have hnil:u.data.toList=[]:=List.eq_nil_of_length_eq_zero (by rw [len_dat];exact h0)
      rw [hnil,Op.rd_nil] at hacc;have hacc':RES=some out:=by rw [← hacc];simp
      have d1:¬ ((0:Int)<(u.size:Int)):=by omega
      have C:=hide (specRightAll _ out wr (by unfold maxLen;omega) (HoldsO.own (uh HOW)));clear hacc hnil;go_wp2_with (first | (go_at_call 68;refine (uh C).mono ?_;rintro e w4 ⟨rfl,hb4⟩))
      go_ret2
      exact Or.inr ⟨out,_,_,hacc',rfl,own_same (uh HOW) fun p _ hp=>hb4.block p hp,hb.trans (hb4.mono hbs)⟩
    · have d1:(0:Int)<(u.size:Int):=by omega
      by_cases h1:u.size<2
      · have d2:decide ((u.size:Int)<2)=true:=decide_eq_true (by omega)
        have hres:RES=none:=by
          obtain ⟨c,hc⟩:∃ c,u.data.toList=[c]:=by
            have hl:=len_dat u;rcases hq:u.data.toList with _ | ⟨c,_ | ⟨d,r⟩⟩
            · rw [hq] at hl;simp at hl;omega
            · exact ⟨c,rfl⟩
            · rw [hq] at hl;simp at hl;omega
          rw [hc,Op.rd_one] at hacc;rw [← hacc];rfl
        clear hacc;go_wp2
        go_ret2
        exact Or.inl ⟨hres,rfl,hb⟩
      · have d2:decide ((u.size:Int)<2)=false:=decide_eq_false (by omega)
        have d2':(1:Int)<(u.size:Int):=by omega
        have htwo:=two_of (t:=u) (by omega);have hrl:(u.data.toList.drop 2).length=u.size - 2:=by rw [List.length_drop,len_dat]
        have HX:=hide fun m n=>txt_ext u m n
        have HE:=hide fun n=>txt_end u n
        obtain ⟨k,hk⟩:∃ c,u[0]=c:=⟨_,rfl⟩;obtain ⟨n,hn⟩:∃ c,u[1]=c:=⟨_,rfl⟩;rw [hk,hn] at htwo;have hdd:∀ m,2≤m→u.data.toList.drop m=(u.data.toList.drop 2).drop (m - 2):=fun m hm=>by rw [List.drop_drop];congr 1;omega
        have HDD:=hide hdd;rw [htwo] at hacc;generalize hr:u.data.toList.drop 2=r at *;have wu:=wU8a;have wi:=wI64a;by_cases c1:n.toNat<2
        · have e1:decide ((n.toNat:Int)<2)=true:=decide_eq_true (by omega)
          have hres:RES=none:=by rw [← hacc,Op.rd_bad (Or.inl c1)];rfl
          clear hacc htwo HDD hdd HX HE hr;go_wp2
          go_ret2
          exact Or.inl ⟨hres,rfl,hb⟩
        · have e1:decide ((n.toNat:Int)<2)=false:=decide_eq_false (by omega)
          have hnlt:=n.toNat_lt;by_cases c2:r.length+2<n.toNat
          · have e2:(u.size:Int)<(n.toNat:Int):=by omega
            have hres:RES=none:=by rw [← hacc,Op.rd_bad (Or.inr c2)];rfl
            clear hacc htwo HDD hdd HX HE hr;go_wp2
            go_ret2
            exact Or.inl ⟨hres,rfl,hb⟩
          · have e2:¬ ((u.size:Int)<(n.toNat:Int)):=by omega
            have e3:(2:Int)≤(n.toNat:Int):=by omega
            have e4:(n.toNat:Int)≤(u.size:Int):=by omega
            rw [map_step (by omega)] at hacc;have HAC:=hide hacc;have hx:=uh HX 2 n.toNat;have he:=uh HE n.toNat;rw [uh HDD n.toNat (by omega)] at he;rw [hr] at hx;have HL2:Hid ((r.drop (n.toNat - 2)).length+n.toNat=u.size):=hide (by rw [List.length_drop];omega);clear hacc htwo HDD hdd HX HE hr;have i0':(0:Int)<(u.size:Int):=by omega
            generalize txt (r.take (n.toNat - 2))=T at *;obtain ⟨L2,hL2⟩:∃ L,r.drop (n.toNat - 2)=L:=⟨_,rfl⟩;rw [hL2] at HAC HL2 he;have lw:w.heap.size≤wr.heap.size:=hbs;have hol1:out.length≤4000:=by omega
            clear hL2;go_wp2_with fail
            go_region_held3 (fun _=>True) (trivial)
              ((refine step_append_lies _ (by rfl) _ _ _ (by rfl) w.heap.size 116 i0 _ 2 24 underlying25 hi0 hz0 hz1 hz2 rfl (by omega) (.slice ya out.length yc) out.length (ocells out) (by rfl) (((uh HOW).alloc _).drew)
                  ⟨wr.heap.size,0,none⟩ 1 1 [.int .i64 k.toNat,.string T] (by rfl) (by rfl) (World.news_of_block (cs:=#[.int .i64 k.toNat,.string T]) (t:=116) (fr:=(0,0)) (heap_alloc_new wr _)) (by simp [Value.oneCell'])
                  (by omega) (by unfold maxLen;omega) (by omega) (by simp;omega) (wr.heap.size+1) (by simp) ?_;intro gg cap3 w3 hown3 hgrow hat hlt))
            all_goals
              have hbw3:Below w.heap.size w w3:=((hb.alloc lw _).drew).grown hgrow (by simp;omega) (fun p hp=>(World.ownsRow.lt (uh HOW) p hp).1);have hoc:ocells out ++ [.int .i64 k.toNat,.string T]=ocells (out ++ [⟨(k.toNat:Int),T⟩]):=by rw [ocells_append];rfl
              rw [hoc] at hown3;have HO3:=hide hown3;clear hown3 hgrow hat hoc HOW;go_wp2
              go_roundw
              case rel =>
                refine ⟨txt L2,out ++ [⟨(k.toNat:Int),T⟩],rfl,?_,?_,⟨some ⟨gg,0,none⟩,cap3,by simp⟩,by simpa using uh HO3,by rw [data_txt];exact uh HAC,hbw3⟩
                · have:=uh HL2
                  rw [txt_size];omega
                · have:=uh HL2
                  rw [txt_size];simp;omega
              case measure =>
                have:=uh HL2
                simp [tlen,txt_size];omega
theorem sReadO (t:ByteArray) (w:World) (h8:t.size≤250):Calls prog 95 #[.string t] w fun e w'=>∃ ad n cp,e=.returned (.tuple #[.slice ad n cp,.bool (decide ((oread t).2=0))])∧((oread t).2=0→n=(oread t).1.length∧w'.ownsRow w.heap.size 116 2 (.slice ad (oread t).1.length cp) (oread t).1.length (ocells (oread t).1))∧Below w.heap.size w w':=by
 refine (specRead t w (by omega)).mono fun e w' h=>?_
 have h8':¬ 8000<t.size:=by omega
 have hacc:Op.acc [] t.data.toList=(Op.rd t.data.toList).bind fun L=>if Op.right L=true then some L else none:=rfl
 rcases h with ⟨hres,rfl,hb⟩ | ⟨L,ad,cp,hres,rfl,ho,hb⟩
 ·rw [oread_none h8' (by rw [hacc,hres];rfl)];exact ⟨none,0,0,rfl,fun h=>absurd h (by decide),hb⟩
 ·cases hr:Op.right L
  ·rw [oread_none h8' (by rw [hacc,hres];show (if Op.right L=true then some L else none)=none;rw [hr];rfl)];exact ⟨ad,L.length,cp,rfl,fun h=>absurd h (by decide),hb⟩
  ·rw [oread_some (L:=L) h8' (by rw [hacc,hres];show (if Op.right L=true then some L else none)=some L;rw [hr];rfl)];exact ⟨ad,L.length,cp,rfl,fun _=>⟨rfl,ho⟩,hb⟩
theorem oread_3 {t:ByteArray} (h8:t.size≤250) (h:(oread t).2≠0):(oread t).2=3:=by
 unfold oread at h ⊢;rw [if_neg (by omega)] at h ⊢;split at h
 ·rfl
 ·exact absurd rfl h
theorem EvA.upN {w q0 q:World} {X B:Nat} {o:EO} {cs:Array Value} (h:EvA w o (.returned (.agg cs)) q) (hn:Nr B q0 q) (hX:q0.heap[X]?=some (.cells eoZ 42)) (hXB:X≠B) (hXw:w.heap.size≤X) :
  cs.size=33∧cs.all (·.oneCell')=true∧q.heap[X]?=some (.cells eoZ 42)∧EvA w o (.returned (.agg cs)) (q.setRow X cs):=by
 obtain ⟨v1,v2,vs,vt,e,o1,o2,os,ot,ap,lo⟩:=h;have e':cs=eoC o.e v1 v2 vs vt o.cd:=by injection e with e;injection e
 subst e';have hX':q.heap[X]?=some (.cells eoZ 42):=(hn.block X (ge.1 hX).1 hXB).trans hX;obtain ⟨a1,p1,e1⟩:=own_form o1;obtain ⟨a2,p2,e2⟩:=own_form o2;obtain ⟨a3,p3,e3⟩:=own_form os;obtain ⟨a4,p4,e4⟩:=own_form ot;refine ⟨rfl,?_,hX',v1,v2,vs,vt,rfl,own_setRow o1 hX' (by decide),own_setRow o2 hX' (by decide),own_setRow os hX' (by decide),own_setRow ot hX' (by decide),ap,?_⟩
 ·rw [e1,e2,e3,e4];exact eoC_all _ _ _ _ _ _ _ _ _ _ _ _ _ _
 ·exact below_row lo hXw _
theorem sRefused {w0 w1:World} {B:Nat} {now:Int} {p:Op.Pk} {e:En} {F1 F2:List Op.Opt} {v1 v2:Value} {q:World} (h:Lay 89 w0 w1 B (cxP now p [] (0,[]) nilS nilS) ⟨e,F1,F2,[],[]⟩ v1 v2 nilS nilS q) (hf:Fit 0 (cx0 now) ⟨e,F1,F2,[],[]⟩) (hp:Op.pok p=true) (hst:0≤e.st∧e.st≤9) (hc:p.code=3∨p.code=4) :
  Calls prog 49 #[.pointer (some ⟨B,0,none⟩)] q fun r q'=>EvA w0 (hearP now p e F1 F2) r q':=by
 have hs:p.data.size≤250:=by
  have:=hp
  unfold Op.pok at this;exact (of_decide_eq_true this).2.2.2.2
 have hk:=hf.ask;have hf2:Fit 0 (cxP now p [] (0,[]) nilS nilS) ⟨e,F1,F2,[],[]⟩:=hf.came p hp rfl rfl _ _;have CO:=hide fun z=>sReadO p.data z hs
 have hr:=oread_right p.data;have h1:p.code≠1:=by omega
 have h2:p.code≠2:=by omega
 have hX0:=heap_alloc_new q (.cells eoZ 42);have hL0:=h.step ((Below.refl q.heap.size q).alloc (Nat.le_refl _) (.cells eoZ 42));have hXw:w0.heap.size≤q.heap.size:=h.low.size;have hXB:q.heap.size≠B:=Nat.ne_of_gt h.lt;have HST:=hide hst;have KC:Hid (∀ z,Lay 89 w0 w1 B (cxP now p [] (0,[]) nilS nilS) ⟨e,F1,F2,[],[]⟩ v1 v2 nilS nilS z→z.cell? ⟨B,6,none⟩=some (.int .i64 e.m2)∧z.cell? ⟨B,7,none⟩=some (.int .i64 e.a2)∧z.cell? ⟨B,8,none⟩=some (.int .i64 e.g2)∧z.cell? ⟨B,9,none⟩=some (.bool e.p2)∧z.cell? ⟨B,10,none⟩=some (.bool e.c2)∧z.cell? ⟨B,11,none⟩=some (.bool e.d2)):=hide fun z hz=>⟨hz.cell (i:=6) rfl,hz.cell (i:=7) rfl,hz.cell (i:=8) rfl,hz.cell (i:=9) rfl,hz.cell (i:=10) rfl,hz.cell (i:=11) rfl⟩
 have H0:=hide (And.intro hL0 hX0);clear h hX0 hL0 hst;go_enter func49,ntmps49
 go_upto_region 1 with fail
 refine gen_world (fun z=>Lay 89 w0 w1 B (cxP now p [] (0,[]) nilS nilS) ⟨e,F1,F2,[],[]⟩ v1 v2 nilS nilS z∧z.heap[q.heap.size]?=some (.cells eoZ 42)) (uh H0) ?_;clear H0;generalize q.heap.size=X at *;intro z1 hz1;have E1:=hide hz1;have c32:z1.cell? ⟨B,32,none⟩=some (.int .i64 p.id):=hz1.1.cell (i:=32) rfl;have c15:z1.cell? ⟨B,15,none⟩=some (.int .i64 e.id):=hz1.1.cell (i:=15) rfl;clear hz1;by_cases hi:p.id=e.id
 ·rw [hi] at c32;go_quiet (fail)
  have E2:Hid (Lay 89 w0 w1 B (cxP now p [] (0,[]) nilS nilS) ⟨e,F1,F2,[],[]⟩ v1 v2 nilS nilS (z1.drewN nq)∧(z1.drewN nq).heap[X]?=some (.cells eoZ 42)):=hide ⟨(uh E1).1.step (below_drewN (Below.refl _ _) _),(uh E1).2⟩;generalize z1.drewN nq=z2 at *;have c33:z2.cell? ⟨B,33,none⟩=some (.string p.data):=(uh E2).1.cell (i:=33) rfl;clear E1 c32 c15;go_wp2_with fail
  refine (uh CO _).mono ?_;rintro r z3 ⟨ad,n,cp,rfl,hyes,hb3⟩;by_cases h0:(oread p.data).2=0
  ·obtain ⟨hn,ho⟩:=hyes h0;subst hn;have E3:=hide (And.intro ((uh E2).1.step hb3) (And.intro ((hb3.block _ (ge.1 (uh E2).2).1).trans (uh E2).2) (HoldsO.own ho)));have hd0:decide ((oread p.data).2=0)=true:=decide_eq_true h0;have c31:z3.cell? ⟨B,31,none⟩=some (.int .i64 p.code):=(uh E3).1.cell (i:=31) rfl;rw [hd0];clear hyes ho hb3 E2 c33 CO hd0;have CL:Hid (∀ (z:World),HoldsO z (.slice ad (oread p.data).1.length cp) (oread p.data).1→Calls prog 97 #[.agg #[.int .i64 e.m2,.int .i64 e.a2,.int .i64 e.g2,.bool e.p2,.bool e.c2,.bool e.d2],.slice ad (oread p.data).1.length cp] z fun r w'=>r=.returned (.agg (cfC (lessF (cfA e) (oread p.data).1)))∧Below z.heap.size z w'):=hide fun z hz=>by
    have:=specLess (cfA e) _ (oread p.data).1 z (cfA_ok hk) hr hz
    rwa [cfA_cells hk] at this
   have CW:Hid (∀ (z:World),HoldsO z (.slice ad (oread p.data).1.length cp) (oread p.data).1→Calls prog 98 #[.agg #[.int .i64 e.m2,.int .i64 e.a2,.int .i64 e.g2,.bool e.p2,.bool e.c2,.bool e.d2],.slice ad (oread p.data).1.length cp] z fun r w'=>r=.returned (.agg (cfC (woF (cfA e) (oread p.data).1)))∧Below z.heap.size z w'):=hide fun z hz=>by
    have:=specWithout (cfA e) _ (oread p.data).1 z (cfA_ok hk) hr hz
    rwa [cfA_cells hk] at this
   by_cases h3:p.code=3
   ·have HH:Hid (hearP now p e F1 F2=evF (cxP now p [] (0,[]) nilS nilS) ⟨setA e (lessF (cfA e) (oread p.data).1),F1,F2,[],[]⟩ (evT 9)):=hide (by unfold hearP;rw [if_neg h1,if_neg h2,if_pos hc,if_pos hi,if_pos h0,if_pos h3]);have HFX:Hid (Fit 0 (cxP now p [] (0,[]) nilS nilS) ⟨setA e (lessF (cfA e) (oread p.data).1),F1,F2,[],[]⟩):=hide (hf2.asks (lessF_ok (cfA_ok hk) _));rw [h3] at c31;clear hk hf2 hf hp hs hr h1 h2 hc hi h0 h3 CW;generalize lessF (cfA e) (oread p.data).1=XX at *;obtain ⟨k6,k7,k8,k9,k10,k11⟩:=uh KC _ (uh E3).1;have f6:=(uh E3).1.frz 6;go_wp2_with fail
    refine (uh CL _ (uh E3).2.2).mono ?_;rintro r z4 ⟨rfl,hb4⟩;have E4:=hide (And.intro ((uh E3).1.step hb4) ((hb4.block _ (ge.1 (uh E3).2.1).1).trans (uh E3).2.1));clear hb4 k6 k7 k8 k9 k10 k11 f6 CL E3;obtain ⟨k6,k7,k8,k9,k10,k11⟩:=uh KC _ (uh E4).1;have f6:=(uh E4).1.frz 6;have f7:=(uh E4).1.frz 7;have f8:=(uh E4).1.frz 8;have f9:=(uh E4).1.frz 9;have f10:=(uh E4).1.frz 10;have f11:=(uh E4).1.frz 11;go_upto_region 9 with fail
    refine gen_world (fun z=>Lay 89 w0 w1 B (cxP now p [] (0,[]) nilS nilS) ⟨setA e XX,F1,F2,[],[]⟩ v1 v2 nilS nilS z∧z.heap[X]?=some (.cells eoZ 42)) ?_ ?_
    ·exact ⟨(uh E4).1.asks9 XX,(set6b_ot hXB _ _ _ _ _ _).trans (uh E4).2⟩
    clear k6 k7 k8 k9 k10 k11 f6 f7 f8 f9 f10 f11 E4 KC;intro z5 hz5;have E5:=hide hz5;have CE:=hide (sEventN w0 w1 B (cxP now p [] (0,[]) nilS nilS) ⟨setA e XX,F1,F2,[],[]⟩ v1 v2 z5 hz5.1 rfl rfl (uh HFX) ⟨#[82,67,78]⟩ (by decide) (fun a ha=>actSAll _ a ((fsmAll (i:=9) (c:=cxP now p [] (0,[]) nilS nilS) rfl (uh HST).1 (uh HST).2 (fun h=>absurd h (by decide)) (fun h=>absurd h (by decide))).1 a ha)) (fsmAll (i:=9) (c:=cxP now p [] (0,[]) nilS nilS) rfl (uh HST).1 (uh HST).2 (fun h=>absurd h (by decide)) (fun h=>absurd h (by decide))).2);clear hz5;have HH2:Hid (hearP now p e F1 F2=evF (cxP now p [] (0,[]) nilS nilS) ⟨setA e XX,F1,F2,[],[]⟩ ⟨#[82,67,78]⟩):=HH;clear HH;generalize evF (cxP now p [] (0,[]) nilS nilS) ⟨setA e XX,F1,F2,[],[]⟩ ⟨#[82,67,78]⟩=EV at *;go_wp2_with fail
    refine (uh CE).mono ?_;rintro r z6 ⟨⟨u1,u2,us,ut,rfl,hE'⟩,hnr⟩;have hE:EvA w0 EV (.returned (.agg (eoC EV.e u1 u2 us ut EV.cd))) z6:=⟨u1,u2,us,ut,rfl,hE'⟩;clear hE' CE;generalize eoC EV.e u1 u2 us ut EV.cd=cs at *;obtain ⟨hsz,hall,hX2,hEv⟩:=hE.upN hnr (uh E5).2 hXB hXw;have HE2:=hide (And.intro hX2 hEv);clear hE hX2 hEv hnr
    go_wp2_with (first
     | (refine wpList_store_rowTo rfl 42 (.tmp 2) (.tmp 58) rfl rfl X cs rfl rfl 42 eoZ (uh HE2).1 (by rw [hsz];exact infoEo) (by rw [hsz];rfl) hall ?_))
    refine bodyPost_ret (v:=.agg cs) (by simp [results,results49,asAddr,Act.put,loadEo (setRow_heap z6 X _ cs _ _ (uh HE2).1) hsz]) rfl ?_;rw [uh HH2];exact (uh HE2).2
   ·have HH:Hid (hearP now p e F1 F2=evF (cxP now p [] (0,[]) nilS nilS) ⟨setA e (woF (cfA e) (oread p.data).1),F1,F2,[],[]⟩ (evT 9)):=hide (by unfold hearP;rw [if_neg h1,if_neg h2,if_pos hc,if_pos hi,if_pos h0,if_neg h3]);have HFX:Hid (Fit 0 (cxP now p [] (0,[]) nilS nilS) ⟨setA e (woF (cfA e) (oread p.data).1),F1,F2,[],[]⟩):=hide (hf2.asks (woF_ok (cfA_ok hk) _));have h4:p.code=4:=by omega
    rw [h4] at c31;clear hk hf2 hf hp hs hr h1 h2 hc hi h0 h3 h4 CL;generalize woF (cfA e) (oread p.data).1=XX at *;obtain ⟨k6,k7,k8,k9,k10,k11⟩:=uh KC _ (uh E3).1;have f6:=(uh E3).1.frz 6;go_wp2_with fail
    refine (uh CW _ (uh E3).2.2).mono ?_;rintro r z4 ⟨rfl,hb4⟩;have E4:=hide (And.intro ((uh E3).1.step hb4) ((hb4.block _ (ge.1 (uh E3).2.1).1).trans (uh E3).2.1));clear hb4 k6 k7 k8 k9 k10 k11 f6 CW E3;obtain ⟨k6,k7,k8,k9,k10,k11⟩:=uh KC _ (uh E4).1;have f6:=(uh E4).1.frz 6;have f7:=(uh E4).1.frz 7;have f8:=(uh E4).1.frz 8;have f9:=(uh E4).1.frz 9;have f10:=(uh E4).1.frz 10;have f11:=(uh E4).1.frz 11;go_upto_region 9 with fail
    refine gen_world (fun z=>Lay 89 w0 w1 B (cxP now p [] (0,[]) nilS nilS) ⟨setA e XX,F1,F2,[],[]⟩ v1 v2 nilS nilS z∧z.heap[X]?=some (.cells eoZ 42)) ?_ ?_
    ·exact ⟨(uh E4).1.asks9 XX,(set6b_ot hXB _ _ _ _ _ _).trans (uh E4).2⟩
    clear k6 k7 k8 k9 k10 k11 f6 f7 f8 f9 f10 f11 E4 KC;intro z5 hz5;have E5:=hide hz5;have CE:=hide (sEventN w0 w1 B (cxP now p [] (0,[]) nilS nilS) ⟨setA e XX,F1,F2,[],[]⟩ v1 v2 z5 hz5.1 rfl rfl (uh HFX) ⟨#[82,67,78]⟩ (by decide) (fun a ha=>actSAll _ a ((fsmAll (i:=9) (c:=cxP now p [] (0,[]) nilS nilS) rfl (uh HST).1 (uh HST).2 (fun h=>absurd h (by decide)) (fun h=>absurd h (by decide))).1 a ha)) (fsmAll (i:=9) (c:=cxP now p [] (0,[]) nilS nilS) rfl (uh HST).1 (uh HST).2 (fun h=>absurd h (by decide)) (fun h=>absurd h (by decide))).2);clear hz5;have HH2:Hid (hearP now p e F1 F2=evF (cxP now p [] (0,[]) nilS nilS) ⟨setA e XX,F1,F2,[],[]⟩ ⟨#[82,67,78]⟩):=HH;clear HH;generalize evF (cxP now p [] (0,[]) nilS nilS) ⟨setA e XX,F1,F2,[],[]⟩ ⟨#[82,67,78]⟩=EV at *;go_wp2_with fail
    refine (uh CE).mono ?_;rintro r z6 ⟨⟨u1,u2,us,ut,rfl,hE'⟩,hnr⟩;have hE:EvA w0 EV (.returned (.agg (eoC EV.e u1 u2 us ut EV.cd))) z6:=⟨u1,u2,us,ut,rfl,hE'⟩;clear hE' CE;generalize eoC EV.e u1 u2 us ut EV.cd=cs at *;obtain ⟨hsz,hall,hX2,hEv⟩:=hE.upN hnr (uh E5).2 hXB hXw;have HE2:=hide (And.intro hX2 hEv);clear hE hX2 hEv hnr
    go_wp2_with (first
     | (refine wpList_store_rowTo rfl 42 (.tmp 2) (.tmp 58) rfl rfl X cs rfl rfl 42 eoZ (uh HE2).1 (by rw [hsz];exact infoEo) (by rw [hsz];rfl) hall ?_))
    refine bodyPost_ret (v:=.agg cs) (by simp [results,results49,asAddr,Act.put,loadEo (setRow_heap z6 X _ cs _ _ (uh HE2).1) hsz]) rfl ?_;rw [uh HH2];exact (uh HE2).2
  ·have HH:Hid (hearP now p e F1 F2=eoErr 3):=hide (by unfold hearP;rw [if_neg h1,if_neg h2,if_pos hc,if_pos hi,if_neg h0,oread_3 hs h0]);have hd0:decide ((oread p.data).2=0)=false:=decide_eq_false h0;have E3:=hide (And.intro ((uh E2).1.step hb3) ((hb3.block _ (ge.1 (uh E2).2).1).trans (uh E2).2));rw [hd0];clear hyes hb3 E2 c33 CO hd0 hk hf2 hf hp hs hr h1 h2 hc hi h0 KC
   go_wp2_with (first
    | (refine wpList_buildTo rfl 42 _ rfl (some 28) rfl (eoC enZero (.slice none 0 0) (.slice none 0 0) (.slice none 0 0) (.slice none 0 0) 3) (by as_aux_lemma=>kernel_rfl) ?_)
    | (refine wpList_store_rowTo rfl 42 (.tmp 2) (.tmp 28) rfl rfl X (eoC enZero (.slice none 0 0) (.slice none 0 0) (.slice none 0 0) (.slice none 0 0) 3) rfl rfl 42 eoZ (uh E3).2 infoEo rfl (eoC_all _ _ _ _ _ _ _ _ _ _ _ _ _ _) ?_))
   refine bodyPost_ret (v:=.agg (eoC enZero (.slice none 0 0) (.slice none 0 0) (.slice none 0 0) (.slice none 0 0) 3)) (by simp [results,results49,asAddr,Act.put,loadEo (setRow_heap z3 X _ (eoC enZero (.slice none 0 0) (.slice none 0 0) (.slice none 0 0) (.slice none 0 0) 3) _ _ (uh E3).2)]) rfl ?_;rw [uh HH];exact evErr (below_row (uh E3).1.low hXw _) 3
 ·have HH:Hid (hearP now p e F1 F2=eoErr 8):=hide (by unfold hearP;rw [if_neg h1,if_neg h2,if_pos hc,if_neg hi]);have hb0:(p.id != e.id)=true:=by simpa using hi
  have hb1:(p.id == e.id)=false:=by simpa using hi
  clear hk hf2 hf hp hs hr h1 h2 hc hi KC CO;go_quiet (fail)
  have E2:Hid (Lay 89 w0 w1 B (cxP now p [] (0,[]) nilS nilS) ⟨e,F1,F2,[],[]⟩ v1 v2 nilS nilS (z1.drewN nq)∧(z1.drewN nq).heap[X]?=some (.cells eoZ 42)):=hide ⟨(uh E1).1.step (below_drewN (Below.refl _ _) _),(uh E1).2⟩;generalize z1.drewN nq=z2 at *;clear E1 c32 c15
  go_wp2_with (first
   | (refine wpList_buildTo rfl 42 _ rfl (some 16) rfl (eoC enZero (.slice none 0 0) (.slice none 0 0) (.slice none 0 0) (.slice none 0 0) 8) (by as_aux_lemma=>kernel_rfl) ?_)
   | (refine wpList_store_rowTo rfl 42 (.tmp 2) (.tmp 16) rfl rfl X (eoC enZero (.slice none 0 0) (.slice none 0 0) (.slice none 0 0) (.slice none 0 0) 8) rfl rfl 42 eoZ (uh E2).2 infoEo rfl (eoC_all _ _ _ _ _ _ _ _ _ _ _ _ _ _) ?_))
  refine bodyPost_ret (v:=.agg (eoC enZero (.slice none 0 0) (.slice none 0 0) (.slice none 0 0) (.slice none 0 0) 8)) (by simp [results,results49,asAddr,Act.put,loadEo (setRow_heap z2 X _ (eoC enZero (.slice none 0 0) (.slice none 0 0) (.slice none 0 0) (.slice none 0 0) 8) _ _ (uh E2).2)]) rfl ?_;rw [uh HH];exact evErr (below_row (uh E2).1.low hXw _) 8
end Go.Proofs.YtahpjlbaagkdoaaGreatDoor
