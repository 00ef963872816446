/- ImplDefr -/
import Derived.Test.YtjebigodbnefiaaGreatDoorS26
import Derived.Test.YtjebigodbnefiaaGreatDoorS25
set_option maxHeartbeats 8000000
set_option maxRecDepth 100000
namespace Go.Proofs.YtjebigodbnefiaaGreatDoor
open Go.RowKit Go.Proofs.Tryz
def Rr (w:World) (wide:Bool) (a:Nat) (inn esc long:Bool) (u:ByteArray) (B g:Nat) (v:World):Prop :=
 Dw v B g wide long [] []∧v.cell? ⟨g,0,none⟩=some (.int .i64 a)∧v.heap[w.heap.size]?=some (.cells #[.bool wide,.int .i64 a,.bool inn,.bool esc,.bool long,.string u] 68)∧v.heap[w.heap.size+1]?=some (.cells #[.bool false,.int .i64 0,.bool false,.bool false,.bool false,.string ⟨#[]⟩,.slice none 0 0,.int .i64 0] 138)∧Below w.heap.size w v ∧
 w.heap.size+2≤B∧w.heap.size+2≤g∧B<v.heap.size∧g<v.heap.size∧g≠B
def Bf (w:World) (wide:Bool) (a:Nat) (rin resc rlong:Bool) (rheld:List UInt8) (B g:Nat) (F:List Hd.Fd) (q:World):Prop :=
 q.heap[w.heap.size]?=some (.cells #[.bool wide,.int .i64 a,.bool rin,.bool resc,.bool rlong,.string (co rheld)] 68)∧q.heap[w.heap.size+1]?=some (.cells #[.bool false,.int .i64 0,.bool false,.bool false,.bool false,.string ⟨#[]⟩,.slice none 0 0,.int .i64 0] 138)∧Dw q B g wide rlong rheld F∧Below w.heap.size w q∧w.heap.size+2≤q.heap.size
theorem oz {w w':World} {base base' B:Nat} {e:TypeId} {size:Nat} {v:Value} {n:Nat} {xs:List Value} (h:w.ownsRow base e size v n xs) (hn:Near B w w') (hB:B<base) (hb:base'≤base):w'.ownsRow base' e size v n xs:=by
 refine ⟨h.1,?_⟩;rcases h.2 with h2 | ⟨g,cap,cur,h1,h2,h3,h4⟩
 ·exact Or.inl h2
 ·exact Or.inr ⟨g,cap,cur,h1,by omega,(hn.block g (ge.1 h3).1 (by omega)).trans h3,h4⟩
theorem rv:(prog.info? 138).map (·.size)=some 8:=by kernel_rfl
theorem AH {w:World} {B:Nat} {x0 x1 x2 x3 x4 x5 x6 x7:Value} {T:TypeId} (h:w.heap[B]?=some (.cells #[x0,x1,x2,x3,x4,x5,x6,x7] T)) :
  w.cell? ⟨B,0,none⟩=some x0∧w.cell? ⟨B,1,none⟩=some x1∧w.cell? ⟨B,2,none⟩=some x2∧w.cell? ⟨B,3,none⟩=some x3∧w.cell? ⟨B,4,none⟩=some x4∧w.cell? ⟨B,5,none⟩=some x5∧w.cell? ⟨B,6,none⟩=some x6∧w.cell? ⟨B,7,none⟩=some x7 ∧
  w.frozen? ⟨B,0,none⟩=false∧w.frozen? ⟨B,1,none⟩=false∧w.frozen? ⟨B,2,none⟩=false∧w.frozen? ⟨B,3,none⟩=false∧w.frozen? ⟨B,4,none⟩=false∧w.frozen? ⟨B,5,none⟩=false∧w.frozen? ⟨B,6,none⟩=false∧w.frozen? ⟨B,7,none⟩=false:=by
 refine ⟨?_,?_,?_,?_,?_,?_,?_,?_,aX h _,aX h _,aX h _,aX h _,aX h _,aX h _,aX h _,aX h _⟩
 all_goals
  rw [cr h];rfl
theorem lu {P:Program} {t:TypeId} {it:TypeInfo} {z:Value} (h1:P.info? t=some it) (h2:it.zero=some z) (w:World):(zeroValue t).run P w=.ok z w:=by
 simp [zeroValue,typeInfo,h1,h2]
theorem la (wide:Bool) (a:Nat) (inn esc long:Bool) (u t:ByteArray) (w:World) (ha:a<4294967296) (ht:t.size≤8000) (hu:u.size≤304) (hr:fG a inn esc long u=true)
  (hT:Lib.Utf8Tabs 2 3 w) :
  Calls prog 111 #[.agg #[.bool wide,.int .i64 a,.bool inn,.bool esc,.bool long,.string u],.string t] w fun e w'=>∃ v,
   e=.returned (.agg #[.bool wide,.int .i64 a,.bool (Hd.run a ⟨inn,esc,long,u.data.toList⟩ t.data.toList).inn,.bool (Hd.run a ⟨inn,esc,long,u.data.toList⟩ t.data.toList).esc,.bool (Hd.run a ⟨inn,esc,long,u.data.toList⟩ t.data.toList).long,.string (co (Hd.run a ⟨inn,esc,long,u.data.toList⟩ t.data.toList).held),v,.int .i64 0]) ∧
   w'.ownsRow w.heap.size 141 2 v ((Hd.finds (gd wide) a ⟨inn,esc,long,u.data.toList⟩ t.data.toList).take 400).length (cj ((Hd.finds (gd wide) a ⟨inn,esc,long,u.data.toList⟩ t.data.toList).take 400))∧Below w.heap.size w w':=by
 have d0:¬ ((8000:Int)<(t.size:Int)):=by omega
 have C1:=aa fun v=>lY wide a inn esc long u v (by unfold maxLen;omega)
 rw [hr] at C1;obtain ⟨it,z,hi1,hi2,hi3,hi4,hi5,hi6,hi7,Z,rfl⟩:=AG;have HI:=aa hi1;obtain ⟨R,hRe⟩:∃ R,Hd.run a ⟨inn,esc,long,u.data.toList⟩ t.data.toList=R:=⟨_,rfl⟩;obtain ⟨F,hFe⟩:∃ F,(Hd.finds (gd wide) a ⟨inn,esc,long,u.data.toList⟩ t.data.toList).take 400=F:=⟨_,rfl⟩;rw [hRe,hFe];obtain ⟨rin,resc,rlong,rheld⟩:=R;go_enter func111,ntmps111
 have hi2':=hi2;clear hi1 hi2 hi3;go_wp2_with fail
 refine (uh C1 _).mono ?_;rintro e w1 ⟨rfl,hb1⟩;have hw1B:w1.heap[w.heap.size]?=some (.cells #[.bool wide,.int .i64 a,.bool inn,.bool esc,.bool long,.string u] 68):=by
  rw [hb1.block w.heap.size (by simp;omega)];exact (zG _ _ _ (by simp)).trans (heap_alloc_last w _)
 have hw1O:w1.heap[w.heap.size+1]?=some (.cells #[.bool false,.int .i64 0,.bool false,.bool false,.bool false,.string ⟨#[]⟩,.slice none 0 0,.int .i64 0] 138):=by
  rw [hb1.block (w.heap.size+1) (by simp)];exact (by have:=heap_alloc_last (w.alloc (.cells #[.bool wide,.int .i64 a,.bool inn,.bool esc,.bool long,.string u] 68)) (.cells #[.bool false,.int .i64 0,.bool false,.bool false,.bool false,.string ⟨#[]⟩,.slice none 0 0,.int .i64 0] 138);simpa using this)
 have hbw1:Below w.heap.size w w1:=(((zC _ _).alloc (zD _) _).alloc (by simp) _).trans (hb1.mono (by simp;omega));have hM:w.heap.size+2≤w1.heap.size:=by have:=hb1.size;simp at this;omega
 have HX:=aa (zA hw1B (zA hw1O hbw1));obtain ⟨k0,k1,k2,k3,k4,k5⟩:=aJ hw1B;clear hb1 hw1B hw1O hbw1;go_wp2_with fail
 have hzv:=(lu (uh HI) hi2');have hsz1:(w1.alloc (.cells #[.int .i64 a] 2)).heap.size=w1.heap.size+1:=by simp
 have hsz2:(w1.alloc (.cells Z 168)).heap.size=w1.heap.size+1:=by simp
 have hBB1:(((w1.alloc (.cells #[.int .i64 a] 2)).alloc (.cells Z 168)).drew).heap[w1.heap.size+1]?=some (.cells Z 168):=by have h:=heap_alloc_last (w1.alloc (.cells #[.int .i64 a] 2)) (.cells Z 168);rw [hsz1] at h;exact h
 have hBB2:(((w1.alloc (.cells Z 168)).alloc (.cells #[.int .i64 a] 2)).drew).heap[w1.heap.size]?=some (.cells Z 168):=(zG _ _ _ (by rw [hsz2];omega)).trans (heap_alloc_last w1 _);have hgg1:(((w1.alloc (.cells #[.int .i64 a] 2)).alloc (.cells Z 168)).drew).heap[w1.heap.size]?=some (.cells #[.int .i64 a] 2):=(zG _ _ _ (by rw [hsz1];omega)).trans (heap_alloc_last w1 _);have hgg2:(((w1.alloc (.cells Z 168)).alloc (.cells #[.int .i64 a] 2)).drew).heap[w1.heap.size+1]?=some (.cells #[.int .i64 a] 2):=by have h:=heap_alloc_last (w1.alloc (.cells Z 168)) (.cells #[.int .i64 a] 2);rw [hsz2] at h;exact h
 have hst1:=rq Z hi4 hi7 wide long w1.heap.size (w1.heap.size+1) ((w1.alloc (.cells #[.int .i64 a] 2)).alloc (.cells Z 168)).drew hBB1;have hst2:=rq Z hi4 hi7 wide long (w1.heap.size+1) w1.heap.size ((w1.alloc (.cells Z 168)).alloc (.cells #[.int .i64 a] 2)).drew hBB2;have KS:Hid (∀ q:World,q.heap[w.heap.size]?=w1.heap[w.heap.size]?→q.cell? ⟨w.heap.size,0,none⟩=some (.bool wide)∧q.cell? ⟨w.heap.size,4,none⟩=some (.bool long)∧q.cell? ⟨w.heap.size,1,none⟩=some (.int .i64 a)):=by
  refine aa fun q hu=>?_
  have hu2:=hu.trans (uh HX).1;exact ⟨by rw [cr hu2];rfl,by rw [cr hu2];rfl,by rw [cr hu2];rfl⟩
 have low1:∀ k,k<w1.heap.size→(((w1.alloc (.cells #[.int .i64 a] 2)).alloc (.cells Z 168)).drew).heap[k]?=w1.heap[k]?:=fun k hk=>(zG _ _ _ (by rw [hsz1];omega)).trans (zG _ _ _ hk)
 have s7:∀ k,k<w1.heap.size→(((w1.alloc (.cells Z 168)).alloc (.cells #[.int .i64 a] 2)).drew).heap[k]?=w1.heap[k]?:=fun k hk=>(zG _ _ _ (by rw [hsz2];omega)).trans (zG _ _ _ hk)
 have ss1:(((w1.alloc (.cells #[.int .i64 a] 2)).alloc (.cells Z 168)).drew).heap.size=w1.heap.size+2:=by show ((w1.alloc (.cells #[.int .i64 a] 2)).alloc (.cells Z 168)).heap.size=_;simp
 have ss2:(((w1.alloc (.cells Z 168)).alloc (.cells #[.int .i64 a] 2)).drew).heap.size=w1.heap.size+2:=by show ((w1.alloc (.cells Z 168)).alloc (.cells #[.int .i64 a] 2)).heap.size=_;simp
 have nn1:=dB (w1.heap.size+1) (((Z.toList.set 0 (.bool wide)).set 1 (.bool long)).set 2 (.func (.func 75) #[] #[.pointer (some ⟨w1.heap.size,0,none⟩)])) ((w1.alloc (.cells #[.int .i64 a] 2)).alloc (.cells Z 168)).drew ((w1.alloc (.cells #[.int .i64 a] 2)).alloc (.cells Z 168)).drew 0 (Near.refl _ _);have nn2:=dB w1.heap.size (((Z.toList.set 0 (.bool wide)).set 1 (.bool long)).set 2 (.func (.func 75) #[] #[.pointer (some ⟨w1.heap.size+1,0,none⟩)])) ((w1.alloc (.cells Z 168)).alloc (.cells #[.int .i64 a] 2)).drew ((w1.alloc (.cells Z 168)).alloc (.cells #[.int .i64 a] 2)).drew 0 (Near.refl _ _);have hk1:=uh KS _ ((nn1.block w.heap.size (by rw [ss1];omega) (by omega)).trans (low1 _ (by omega)));have hk2:=uh KS _ ((nn2.block w.heap.size (by rw [ss2];omega) (by omega)).trans (s7 _ (by omega)));have R1:Hid (Rr w wide a inn esc long u (w1.heap.size+1) w1.heap.size ((((w1.alloc (.cells #[.int .i64 a] 2)).alloc (.cells Z 168)).drew).setCells (w1.heap.size+1) 0 (((Z.toList.set 0 (.bool wide)).set 1 (.bool long)).set 2 (.func (.func 75) #[] #[.pointer (some ⟨w1.heap.size,0,none⟩)])))):=by
  refine aa ⟨⟨_,eC _ _ _ _ _ _ hBB1,dcS Z hi4 hi5 hi6 wide long _⟩,?_,?_,?_,?_,by omega,by omega,by have:=nn1.size;omega,by have:=nn1.size;omega,by omega⟩
  ·rw [World.cell?_of_block (w:=((w1.alloc (.cells #[.int .i64 a] 2)).alloc (.cells Z 168)).drew) (nn1.block w1.heap.size (by omega) (by omega)),cr hgg1];rfl
  ·exact (nn1.block w.heap.size (by omega) (by omega)).trans ((low1 _ (by omega)).trans (uh HX).1)
  ·exact (nn1.block (w.heap.size+1) (by omega) (by omega)).trans ((low1 _ (by omega)).trans (uh HX).2.1)
  ·exact (uh HX).2.2.trans ((((zC _ _).alloc (by omega) _).alloc (by rw [hsz1];omega) _).drew.trans (nn1.below (by omega) (by omega)))
 have R2:Hid (Rr w wide a inn esc long u w1.heap.size (w1.heap.size+1) ((((w1.alloc (.cells Z 168)).alloc (.cells #[.int .i64 a] 2)).drew).setCells w1.heap.size 0 (((Z.toList.set 0 (.bool wide)).set 1 (.bool long)).set 2 (.func (.func 75) #[] #[.pointer (some ⟨w1.heap.size+1,0,none⟩)])))):=by
  refine aa ⟨⟨_,eC _ _ _ _ _ _ hBB2,dcS Z hi4 hi5 hi6 wide long _⟩,?_,?_,?_,?_,by omega,by omega,by have:=nn2.size;omega,by have:=nn2.size;omega,by omega⟩
  ·rw [World.cell?_of_block (w:=((w1.alloc (.cells Z 168)).alloc (.cells #[.int .i64 a] 2)).drew) (nn2.block (w1.heap.size+1) (by omega) (by omega)),cr hgg2];rfl
  ·exact (nn2.block w.heap.size (by omega) (by omega)).trans ((s7 _ (by omega)).trans (uh HX).1)
  ·exact (nn2.block (w.heap.size+1) (by omega) (by omega)).trans ((s7 _ (by omega)).trans (uh HX).2.1)
  ·exact (uh HX).2.2.trans ((((zC _ _).alloc (by omega) _).alloc (by rw [hsz2];omega) _).drew.trans (nn2.below (by omega) (by omega)))
 clear hBB1 hBB2 hgg1 hgg2 low1 s7 ss1 ss2 nn1 nn2 hsz1 hsz2;have hsZ:Z.size=1109:=hi4;have hZ1:¬ (Z=#[]):=fun h=>by rw [h] at hsZ;cases hsZ
 have hZ2:¬ (Z.size=0):=by omega
 have hZ3:2≤Z.size:=by omega
 have hZ4:3≤Z.size:=by omega
 have hZ5:¬ (Z.size<2):=by omega
 have hZ6:¬ (Z.size<3):=by omega
 have hZ7:0<Z.size:=by omega
 have hZ8:1<Z.size:=by omega
 have hZ9:2<Z.size:=by omega
 clear hi4 hi5 hi6 hi7;have hlt1:w.heap.size<w1.heap.size:=by omega
 go_region_held (fun q=>q.cell? ⟨w.heap.size,0,none⟩=some (.bool wide)∧q.cell? ⟨w.heap.size,4,none⟩=some (.bool long)∧q.cell? ⟨w.heap.size,1,none⟩=some (.int .i64 a)) (first | go_keep | exact hk1 | exact hk2) (first
  | (go_at_call 33;refine (nA a _).mono ?_;rintro e w2 ⟨rfl,rfl⟩))
 all_goals clear hk1 hk2 hst1 hst2 KS
 all_goals go_wp2_with fail
 ·refine aI (Rr w wide a inn esc long u (w1.heap.size+1) w1.heap.size) (uh R1) ?_;clear R1 R2 HX k0 k1 k2 k3 k4 k5 hzv;generalize w1.heap.size+1=B at *;generalize w1.heap.size=g at *;rintro v ⟨hdw,hcg,hbD,hbO,hbl,hB2,hg2,hBv,hgv,hgB⟩;obtain ⟨k0,k1,k2,k3,k4,k5⟩:=aJ hbD;obtain ⟨cs,hcs,hdc⟩:=hdw;have hul:u.data.toList.length=u.size:=by rw [Array.length_toList];rfl
  have hne:¬ (w.heap.size=B):=by omega
  have hne':¬ (B=w.heap.size):=by omega
  obtain ⟨ui,hi1,hi2,hi3,hi4⟩:=mn;have hcp:=jz (P:=prog) v.drew 22 9 3 5 B 3 304 304 u underlying22 (by rw [hi1];simp [hi3]) hu (fun j hj=>by
   show (v.cell? _).isSome=true
   rw [cr hcs,Array.getElem?_eq_getElem (by rw [hdc.size];omega)];rfl) (fun j _=>aX (w:=v) hcs _)
  have hWB:=eC B 168 (bh u.data.toList) v.drew cs 3 hcs;have hnear:=dB B (bh u.data.toList) v v.drew 3 (Near.refl _ _).drew;have hq307:(v.drew.setCells B 3 (bh u.data.toList)).cell? ⟨B,307,none⟩=some (.int .i64 0):=by
   rw [cr hWB,d_ _ _ _ _ (by rw [oX,hdc.size];omega),if_neg (by rw [oX];omega)];exact hdc.cz
  have hf307:(v.drew.setCells B 3 (bh u.data.toList)).frozen? ⟨B,307,none⟩=false:=aX hWB _;have hq2:(v.drew.setCells B 3 (bh u.data.toList)).cell? ⟨w.heap.size,2,none⟩=some (.bool inn):=by
   rw [World.cell?_of_block (w:=v) (hnear.block w.heap.size (by omega) (by omega))];exact k2
  have hq3:(v.drew.setCells B 3 (bh u.data.toList)).cell? ⟨w.heap.size,3,none⟩=some (.bool esc):=by
   rw [World.cell?_of_block (w:=v) (hnear.block w.heap.size (by omega) (by omega))];exact k3
  have hDd:Dw ((v.drew.setCells B 3 (bh u.data.toList)).setCell ⟨B,307,none⟩ (.int .i64 u.size)) B g wide long u.data.toList [] :=
   ⟨_,zH _ B 307 _ _ _ hWB,hdc.fill u.data.toList (by omega) _ (by rw [hul])⟩
  have hNd:Near B v ((v.drew.setCells B 3 (bh u.data.toList)).setCell ⟨B,307,none⟩ (.int .i64 u.size)):=hnear.setCell 307 _;have HGo:Hid (Calls prog 123 #[.pointer (some ⟨B,0,none⟩),.string t,.bool inn,.bool esc] ((v.drew.setCells B 3 (bh u.data.toList)).setCell ⟨B,307,none⟩ (.int .i64 u.size)) fun e w' =>
    e=.returned (.tuple #[.bool rin,.bool resc]) ∧
    Dw w' B g wide rlong rheld F∧Near B v w'):=by
   refine aa ((v8 _ B g a wide ⟨inn,esc,long,u.data.toList⟩ t ht hDd ?_ (by omega) ?_ ha ?_ ?_).mono fun e w' ⟨p1,p2,p3⟩=>⟨by rw [hRe] at p1;exact p1,by rw [hRe,hFe] at p2;exact p2,hNd.trans p3⟩)
   ·rw [World.cell?_of_block (w:=v) (hNd.block g (by omega) (by omega))];exact hcg
   ·exact Nat.lt_of_lt_of_le hgv hNd.size
   ·refine ⟨by show u.data.toList.length≤304;omega,fun hin=>?_⟩;have hin':inn=false:=hin;subst hin';simp only [fG,Bool.and_eq_true,Bool.false_or,Bool.not_eq_true',decide_eq_true_eq] at hr;refine ⟨hr.2.2.1,hr.2.2.2.1,?_⟩;exact List.eq_nil_of_length_eq_zero (by show u.data.toList.length=0;omega)
   ·intro wr hn;exact Utf8Tabs_below hT (hbl.trans ((hNd.trans hn).below (by omega) (by omega)))
  have hbD':=aa hbD;have hbO':=aa hbO;have hbl':=aa hbl;clear hWB hnear hDd hNd hcs hdc hbD hbO hbl hi1 hi2 hi3 hi4 hT hcg k0 k1 k4 hr;go_region
  go_wp2_with fail
  refine (uh HGo).mono ?_;rintro e w3 ⟨rfl,hd3,hn3⟩;clear HGo hcp hq307 hf307 hq2 hq3 k2 k3;have hw3D:=(hn3.block w.heap.size (by omega) (by omega)).trans (uh hbD');have hw3O:=(hn3.block (w.heap.size+1) (by omega) (by omega)).trans (uh hbO');have hbl3:Below w.heap.size w w3:=(uh hbl').trans (hn3.below (by omega) (by omega));have hs3:=hn3.size;obtain ⟨j0,j1,j2,j3,j4,j5⟩:=aJ hw3D;have f2:=aX hw3D 2;have f3:=aX hw3D 3;have f4:=aX hw3D 4;have f5:=aX hw3D 5;obtain ⟨cs3,hcs3,hdc3⟩:=hd3;have b1:w3.cell? ⟨B,1,none⟩=some (.bool rlong):=by rw [cr hcs3];exact hdc3.c1
  have b307:w3.cell? ⟨B,307,none⟩=some (.int .i64 rheld.length):=by rw [cr hcs3];exact hdc3.cz
  have hl3:rheld.length≤304:=hdc3.hl;have hli:(rheld.length:Int)≤304:=by omega
  have hcs4:(((w3.setCell ⟨w.heap.size,2,none⟩ (.bool rin)).setCell ⟨w.heap.size,3,none⟩ (.bool resc)).setCell ⟨w.heap.size,4,none⟩ (.bool rlong)).heap[B]?=some (.cells cs3 168) :=
   (Below.heap_setCell _ _ _ _ hne').trans ((Below.heap_setCell _ _ _ _ hne').trans ((Below.heap_setCell _ _ _ _ hne').trans hcs3))
  have hcv:=gQ hcs4 hdc3 rheld.length 304 (zD _);rw [List.take_length] at hcv;have RR:Hid (Bf w wide a rin resc rlong rheld B g F ((((w3.setCell ⟨w.heap.size,2,none⟩ (.bool rin)).setCell ⟨w.heap.size,3,none⟩ (.bool resc)).setCell ⟨w.heap.size,4,none⟩ (.bool rlong)).setCell ⟨w.heap.size,5,none⟩ (.string (co rheld)))):=by
   refine aa ⟨?_,?_,⟨cs3,(Below.heap_setCell _ _ _ _ hne').trans hcs4,hdc3⟩,?_,?_⟩
   ·rw [zH _ _ 5 _ _ _ (zH _ _ 4 _ _ _ (zH _ _ 3 _ _ _ (zH _ _ 2 _ _ _ hw3D)))];rfl
   ·exact (Below.heap_setCell _ _ _ _ (by simp)).trans ((Below.heap_setCell _ _ _ _ (by simp)).trans ((Below.heap_setCell _ _ _ _ (by simp)).trans ((Below.heap_setCell _ _ _ _ (by simp)).trans hw3O)))
   ·exact (((hbl3.setCell (p:=⟨w.heap.size,2,none⟩) (zD _) _).setCell (p:=⟨w.heap.size,3,none⟩) (zD _) _).setCell (p:=⟨w.heap.size,4,none⟩) (zD _) _).setCell (p:=⟨w.heap.size,5,none⟩) (zD _) _
   ·have:((((w3.setCell ⟨w.heap.size,2,none⟩ (.bool rin)).setCell ⟨w.heap.size,3,none⟩ (.bool resc)).setCell ⟨w.heap.size,4,none⟩ (.bool rlong)).setCell ⟨w.heap.size,5,none⟩ (.string (co rheld))).heap.size=w3.heap.size:=by simp [World.setCell]
    omega
  clear hcs3 hdc3 hcs4 hw3D hw3O hbl3 hbD' hbO' hbl' hn3;go_wp2_with fail
  refine aI (Bf w wide a rin resc rlong rheld B g F) (uh RR) ?_;clear j0 j1 j2 j3 j4 j5 f2 f3 f4 f5 b1 b307 hcv RR;rintro v4 ⟨hD4,hO4,hDw4,hbl4,hs4⟩;have KS4:Hid (∀ q:World,q.heap[w.heap.size]?=v4.heap[w.heap.size]?→q.cell? ⟨w.heap.size,0,none⟩=some (.bool wide)∧q.cell? ⟨w.heap.size,1,none⟩=some (.int .i64 a)∧q.cell? ⟨w.heap.size,2,none⟩=some (.bool rin)∧q.cell? ⟨w.heap.size,3,none⟩=some (.bool resc)∧q.cell? ⟨w.heap.size,4,none⟩=some (.bool rlong)∧q.cell? ⟨w.heap.size,5,none⟩=some (.string (co rheld))):=by
   refine aa fun q hq=>?_
   obtain ⟨j0,j1,j2,j3,j4,j5⟩:=aJ (hq.trans hD4);exact ⟨j0,j1,j2,j3,j4,j5⟩
  obtain ⟨j0,j1,j2,j3,j4,j5⟩:=uh KS4 v4 rfl;have HO4:=aa hO4;have HDw:=aa hDw4;have HBl:=aa hbl4;clear hD4 hO4 hDw4 hbl4
  go_region_with (first
   | (go_at_call 124;refine (told v4.drew B g wide rlong rheld F ((uh HDw).same rfl)).mono ?_;rintro e w5 ⟨vv,rfl,ho5,hb5⟩
      obtain ⟨ad,cp,rfl⟩:=af ho5;obtain ⟨p0,p1,p2,p3,p4,p5⟩:=uh KS4 w5 (hb5.block w.heap.size (by show w.heap.size<v4.heap.size;omega));have hO5:=(hb5.block (w.heap.size+1) (by show w.heap.size+1<v4.heap.size;omega)).trans (uh HO4);obtain ⟨o0,o1,o2,o3,o4,o5,o6,o7,q0,q1,q2,q3,q4,q5,q6,q7⟩:=AH hO5;have HO5:=aa hO5;have HR5:=aa ho5;have HB5:=aa hb5;clear ho5 hb5 hO5))
  all_goals
   have hfin:((((((((w5.setCell ⟨w.heap.size+1,0,none⟩ (.bool wide)).setCell ⟨w.heap.size+1,1,none⟩ (.int .i64 a)).setCell ⟨w.heap.size+1,2,none⟩ (.bool rin)).setCell ⟨w.heap.size+1,3,none⟩ (.bool resc)).setCell ⟨w.heap.size+1,4,none⟩ (.bool rlong)).setCell ⟨w.heap.size+1,5,none⟩ (.string (co rheld))).setCell ⟨w.heap.size+1,6,none⟩ (.slice ad F.length cp)).setCell ⟨w.heap.size+1,7,none⟩ (.int .i64 0)).heap[w.heap.size+1]?=some (.cells #[.bool wide,.int .i64 a,.bool rin,.bool resc,.bool rlong,.string (co rheld),.slice ad F.length cp,.int .i64 0] 138):=by
    rw [zH _ _ 7 _ _ _ (zH _ _ 6 _ _ _ (zH _ _ 5 _ _ _ (zH _ _ 4 _ _ _ (zH _ _ 3 _ _ _ (zH _ _ 2 _ _ _ (zH _ _ 1 _ _ _ (zH _ _ 0 _ _ _ (uh HO5))))))))];rfl
   have hld:=run_loadVar_row (P:=prog) ((((((((w5.setCell ⟨w.heap.size+1,0,none⟩ (.bool wide)).setCell ⟨w.heap.size+1,1,none⟩ (.int .i64 a)).setCell ⟨w.heap.size+1,2,none⟩ (.bool rin)).setCell ⟨w.heap.size+1,3,none⟩ (.bool resc)).setCell ⟨w.heap.size+1,4,none⟩ (.bool rlong)).setCell ⟨w.heap.size+1,5,none⟩ (.string (co rheld))).setCell ⟨w.heap.size+1,6,none⟩ (.slice ad F.length cp)).setCell ⟨w.heap.size+1,7,none⟩ (.int .i64 0)) (w.heap.size+1) 138 138 #[.bool wide,.int .i64 a,.bool rin,.bool resc,.bool rlong,.string (co rheld),.slice ad F.length cp,.int .i64 0] (0,0) _ hfin underlying138 rfl rv;have hnf:Near (w.heap.size+1) w5 ((((((((w5.setCell ⟨w.heap.size+1,0,none⟩ (.bool wide)).setCell ⟨w.heap.size+1,1,none⟩ (.int .i64 a)).setCell ⟨w.heap.size+1,2,none⟩ (.bool rin)).setCell ⟨w.heap.size+1,3,none⟩ (.bool resc)).setCell ⟨w.heap.size+1,4,none⟩ (.bool rlong)).setCell ⟨w.heap.size+1,5,none⟩ (.string (co rheld))).setCell ⟨w.heap.size+1,6,none⟩ (.slice ad F.length cp)).setCell ⟨w.heap.size+1,7,none⟩ (.int .i64 0)):=(((((((Near.refl _ _).setCell 0 _).setCell 1 _).setCell 2 _).setCell 3 _).setCell 4 _).setCell 5 _).setCell 6 _ |>.setCell 7 _
   have hown:((((((((w5.setCell ⟨w.heap.size+1,0,none⟩ (.bool wide)).setCell ⟨w.heap.size+1,1,none⟩ (.int .i64 a)).setCell ⟨w.heap.size+1,2,none⟩ (.bool rin)).setCell ⟨w.heap.size+1,3,none⟩ (.bool resc)).setCell ⟨w.heap.size+1,4,none⟩ (.bool rlong)).setCell ⟨w.heap.size+1,5,none⟩ (.string (co rheld))).setCell ⟨w.heap.size+1,6,none⟩ (.slice ad F.length cp)).setCell ⟨w.heap.size+1,7,none⟩ (.int .i64 0)).ownsRow w.heap.size 141 2 (.slice ad F.length cp) F.length (cj F):=oz (uh HR5) hnf (by show w.heap.size+1<v4.heap.size;omega) (by show w.heap.size≤v4.heap.size;omega);have hbf:Below w.heap.size w ((((((((w5.setCell ⟨w.heap.size+1,0,none⟩ (.bool wide)).setCell ⟨w.heap.size+1,1,none⟩ (.int .i64 a)).setCell ⟨w.heap.size+1,2,none⟩ (.bool rin)).setCell ⟨w.heap.size+1,3,none⟩ (.bool resc)).setCell ⟨w.heap.size+1,4,none⟩ (.bool rlong)).setCell ⟨w.heap.size+1,5,none⟩ (.string (co rheld))).setCell ⟨w.heap.size+1,6,none⟩ (.slice ad F.length cp)).setCell ⟨w.heap.size+1,7,none⟩ (.int .i64 0)):=(uh HBl).drew.trans (((uh HB5).mono (by show w.heap.size≤v4.heap.size;omega)).trans (hnf.below (by omega) (by have:=(uh HB5).size;have h2:v4.heap.size≤w5.heap.size:=this;omega)));clear j0 j1 j2 j3 j4 j5 p0 p1 p2 p3 p4 p5 o0 o1 o2 o3 o4 o5 o6 o7 q0 q1 q2 q3 q4 q5 q6 q7 hfin hnf;generalize ((((((((w5.setCell ⟨w.heap.size+1,0,none⟩ (.bool wide)).setCell ⟨w.heap.size+1,1,none⟩ (.int .i64 a)).setCell ⟨w.heap.size+1,2,none⟩ (.bool rin)).setCell ⟨w.heap.size+1,3,none⟩ (.bool resc)).setCell ⟨w.heap.size+1,4,none⟩ (.bool rlong)).setCell ⟨w.heap.size+1,5,none⟩ (.string (co rheld))).setCell ⟨w.heap.size+1,6,none⟩ (.slice ad F.length cp)).setCell ⟨w.heap.size+1,7,none⟩ (.int .i64 0))=WE at *;go_wp2
   refine bodyPost_ret (v:=.agg #[.bool wide,.int .i64 a,.bool rin,.bool resc,.bool rlong,.string (co rheld),.slice ad F.length cp,.int .i64 0]) ?_ rfl ⟨_,rfl,hown,hbf⟩;rw [dW rfl];simp [asAddr,Result.andThen,hld]
 ·refine aI (Rr w wide a inn esc long u w1.heap.size (w1.heap.size+1)) (uh R2) ?_;clear R1 R2 HX k0 k1 k2 k3 k4 k5 hzv;generalize w1.heap.size+1=g at *;generalize w1.heap.size=B at *;rintro v ⟨hdw,hcg,hbD,hbO,hbl,hB2,hg2,hBv,hgv,hgB⟩;obtain ⟨k0,k1,k2,k3,k4,k5⟩:=aJ hbD;obtain ⟨cs,hcs,hdc⟩:=hdw;have hul:u.data.toList.length=u.size:=by rw [Array.length_toList];rfl
  have hne:¬ (w.heap.size=B):=by omega
  have hne':¬ (B=w.heap.size):=by omega
  obtain ⟨ui,hi1,hi2,hi3,hi4⟩:=mn;have hcp:=jz (P:=prog) v.drew 22 9 3 5 B 3 304 304 u underlying22 (by rw [hi1];simp [hi3]) hu (fun j hj=>by
   show (v.cell? _).isSome=true
   rw [cr hcs,Array.getElem?_eq_getElem (by rw [hdc.size];omega)];rfl) (fun j _=>aX (w:=v) hcs _)
  have hWB:=eC B 168 (bh u.data.toList) v.drew cs 3 hcs;have hnear:=dB B (bh u.data.toList) v v.drew 3 (Near.refl _ _).drew;have hq307:(v.drew.setCells B 3 (bh u.data.toList)).cell? ⟨B,307,none⟩=some (.int .i64 0):=by
   rw [cr hWB,d_ _ _ _ _ (by rw [oX,hdc.size];omega),if_neg (by rw [oX];omega)];exact hdc.cz
  have hf307:(v.drew.setCells B 3 (bh u.data.toList)).frozen? ⟨B,307,none⟩=false:=aX hWB _;have hq2:(v.drew.setCells B 3 (bh u.data.toList)).cell? ⟨w.heap.size,2,none⟩=some (.bool inn):=by
   rw [World.cell?_of_block (w:=v) (hnear.block w.heap.size (by omega) (by omega))];exact k2
  have hq3:(v.drew.setCells B 3 (bh u.data.toList)).cell? ⟨w.heap.size,3,none⟩=some (.bool esc):=by
   rw [World.cell?_of_block (w:=v) (hnear.block w.heap.size (by omega) (by omega))];exact k3
  have hDd:Dw ((v.drew.setCells B 3 (bh u.data.toList)).setCell ⟨B,307,none⟩ (.int .i64 u.size)) B g wide long u.data.toList [] :=
   ⟨_,zH _ B 307 _ _ _ hWB,hdc.fill u.data.toList (by omega) _ (by rw [hul])⟩
  have hNd:Near B v ((v.drew.setCells B 3 (bh u.data.toList)).setCell ⟨B,307,none⟩ (.int .i64 u.size)):=hnear.setCell 307 _;have HGo:Hid (Calls prog 123 #[.pointer (some ⟨B,0,none⟩),.string t,.bool inn,.bool esc] ((v.drew.setCells B 3 (bh u.data.toList)).setCell ⟨B,307,none⟩ (.int .i64 u.size)) fun e w' =>
    e=.returned (.tuple #[.bool rin,.bool resc]) ∧
    Dw w' B g wide rlong rheld F∧Near B v w'):=by
   refine aa ((v8 _ B g a wide ⟨inn,esc,long,u.data.toList⟩ t ht hDd ?_ (by omega) ?_ ha ?_ ?_).mono fun e w' ⟨p1,p2,p3⟩=>⟨by rw [hRe] at p1;exact p1,by rw [hRe,hFe] at p2;exact p2,hNd.trans p3⟩)
   ·rw [World.cell?_of_block (w:=v) (hNd.block g (by omega) (by omega))];exact hcg
   ·exact Nat.lt_of_lt_of_le hgv hNd.size
   ·refine ⟨by show u.data.toList.length≤304;omega,fun hin=>?_⟩;have hin':inn=false:=hin;subst hin';simp only [fG,Bool.and_eq_true,Bool.false_or,Bool.not_eq_true',decide_eq_true_eq] at hr;refine ⟨hr.2.2.1,hr.2.2.2.1,?_⟩;exact List.eq_nil_of_length_eq_zero (by show u.data.toList.length=0;omega)
   ·intro wr hn;exact Utf8Tabs_below hT (hbl.trans ((hNd.trans hn).below (by omega) (by omega)))
  have hbD':=aa hbD;have hbO':=aa hbO;have hbl':=aa hbl;clear hWB hnear hDd hNd hcs hdc hbD hbO hbl hi1 hi2 hi3 hi4 hT hcg k0 k1 k4 hr;go_region
  go_wp2_with fail
  refine (uh HGo).mono ?_;rintro e w3 ⟨rfl,hd3,hn3⟩;clear HGo hcp hq307 hf307 hq2 hq3 k2 k3;have hw3D:=(hn3.block w.heap.size (by omega) (by omega)).trans (uh hbD');have hw3O:=(hn3.block (w.heap.size+1) (by omega) (by omega)).trans (uh hbO');have hbl3:Below w.heap.size w w3:=(uh hbl').trans (hn3.below (by omega) (by omega));have hs3:=hn3.size;obtain ⟨j0,j1,j2,j3,j4,j5⟩:=aJ hw3D;have f2:=aX hw3D 2;have f3:=aX hw3D 3;have f4:=aX hw3D 4;have f5:=aX hw3D 5;obtain ⟨cs3,hcs3,hdc3⟩:=hd3;have b1:w3.cell? ⟨B,1,none⟩=some (.bool rlong):=by rw [cr hcs3];exact hdc3.c1
  have b307:w3.cell? ⟨B,307,none⟩=some (.int .i64 rheld.length):=by rw [cr hcs3];exact hdc3.cz
  have hl3:rheld.length≤304:=hdc3.hl;have hli:(rheld.length:Int)≤304:=by omega
  have hcs4:(((w3.setCell ⟨w.heap.size,2,none⟩ (.bool rin)).setCell ⟨w.heap.size,3,none⟩ (.bool resc)).setCell ⟨w.heap.size,4,none⟩ (.bool rlong)).heap[B]?=some (.cells cs3 168) :=
   (Below.heap_setCell _ _ _ _ hne').trans ((Below.heap_setCell _ _ _ _ hne').trans ((Below.heap_setCell _ _ _ _ hne').trans hcs3))
  have hcv:=gQ hcs4 hdc3 rheld.length 304 (zD _);rw [List.take_length] at hcv;have RR:Hid (Bf w wide a rin resc rlong rheld B g F ((((w3.setCell ⟨w.heap.size,2,none⟩ (.bool rin)).setCell ⟨w.heap.size,3,none⟩ (.bool resc)).setCell ⟨w.heap.size,4,none⟩ (.bool rlong)).setCell ⟨w.heap.size,5,none⟩ (.string (co rheld)))):=by
   refine aa ⟨?_,?_,⟨cs3,(Below.heap_setCell _ _ _ _ hne').trans hcs4,hdc3⟩,?_,?_⟩
   ·rw [zH _ _ 5 _ _ _ (zH _ _ 4 _ _ _ (zH _ _ 3 _ _ _ (zH _ _ 2 _ _ _ hw3D)))];rfl
   ·exact (Below.heap_setCell _ _ _ _ (by simp)).trans ((Below.heap_setCell _ _ _ _ (by simp)).trans ((Below.heap_setCell _ _ _ _ (by simp)).trans ((Below.heap_setCell _ _ _ _ (by simp)).trans hw3O)))
   ·exact (((hbl3.setCell (p:=⟨w.heap.size,2,none⟩) (zD _) _).setCell (p:=⟨w.heap.size,3,none⟩) (zD _) _).setCell (p:=⟨w.heap.size,4,none⟩) (zD _) _).setCell (p:=⟨w.heap.size,5,none⟩) (zD _) _
   ·have:((((w3.setCell ⟨w.heap.size,2,none⟩ (.bool rin)).setCell ⟨w.heap.size,3,none⟩ (.bool resc)).setCell ⟨w.heap.size,4,none⟩ (.bool rlong)).setCell ⟨w.heap.size,5,none⟩ (.string (co rheld))).heap.size=w3.heap.size:=by simp [World.setCell]
    omega
  clear hcs3 hdc3 hcs4 hw3D hw3O hbl3 hbD' hbO' hbl' hn3;go_wp2_with fail
  refine aI (Bf w wide a rin resc rlong rheld B g F) (uh RR) ?_;clear j0 j1 j2 j3 j4 j5 f2 f3 f4 f5 b1 b307 hcv RR;rintro v4 ⟨hD4,hO4,hDw4,hbl4,hs4⟩;have KS4:Hid (∀ q:World,q.heap[w.heap.size]?=v4.heap[w.heap.size]?→q.cell? ⟨w.heap.size,0,none⟩=some (.bool wide)∧q.cell? ⟨w.heap.size,1,none⟩=some (.int .i64 a)∧q.cell? ⟨w.heap.size,2,none⟩=some (.bool rin)∧q.cell? ⟨w.heap.size,3,none⟩=some (.bool resc)∧q.cell? ⟨w.heap.size,4,none⟩=some (.bool rlong)∧q.cell? ⟨w.heap.size,5,none⟩=some (.string (co rheld))):=by
   refine aa fun q hq=>?_
   obtain ⟨j0,j1,j2,j3,j4,j5⟩:=aJ (hq.trans hD4);exact ⟨j0,j1,j2,j3,j4,j5⟩
  obtain ⟨j0,j1,j2,j3,j4,j5⟩:=uh KS4 v4 rfl;have HO4:=aa hO4;have HDw:=aa hDw4;have HBl:=aa hbl4;clear hD4 hO4 hDw4 hbl4
  go_region_with (first
   | (go_at_call 124;refine (told v4.drew B g wide rlong rheld F ((uh HDw).same rfl)).mono ?_;rintro e w5 ⟨vv,rfl,ho5,hb5⟩
      obtain ⟨ad,cp,rfl⟩:=af ho5;obtain ⟨p0,p1,p2,p3,p4,p5⟩:=uh KS4 w5 (hb5.block w.heap.size (by show w.heap.size<v4.heap.size;omega));have hO5:=(hb5.block (w.heap.size+1) (by show w.heap.size+1<v4.heap.size;omega)).trans (uh HO4);obtain ⟨o0,o1,o2,o3,o4,o5,o6,o7,q0,q1,q2,q3,q4,q5,q6,q7⟩:=AH hO5;have HO5:=aa hO5;have HR5:=aa ho5;have HB5:=aa hb5;clear ho5 hb5 hO5))
  all_goals
   have hfin:((((((((w5.setCell ⟨w.heap.size+1,0,none⟩ (.bool wide)).setCell ⟨w.heap.size+1,1,none⟩ (.int .i64 a)).setCell ⟨w.heap.size+1,2,none⟩ (.bool rin)).setCell ⟨w.heap.size+1,3,none⟩ (.bool resc)).setCell ⟨w.heap.size+1,4,none⟩ (.bool rlong)).setCell ⟨w.heap.size+1,5,none⟩ (.string (co rheld))).setCell ⟨w.heap.size+1,6,none⟩ (.slice ad F.length cp)).setCell ⟨w.heap.size+1,7,none⟩ (.int .i64 0)).heap[w.heap.size+1]?=some (.cells #[.bool wide,.int .i64 a,.bool rin,.bool resc,.bool rlong,.string (co rheld),.slice ad F.length cp,.int .i64 0] 138):=by
    rw [zH _ _ 7 _ _ _ (zH _ _ 6 _ _ _ (zH _ _ 5 _ _ _ (zH _ _ 4 _ _ _ (zH _ _ 3 _ _ _ (zH _ _ 2 _ _ _ (zH _ _ 1 _ _ _ (zH _ _ 0 _ _ _ (uh HO5))))))))];rfl
   have hld:=run_loadVar_row (P:=prog) ((((((((w5.setCell ⟨w.heap.size+1,0,none⟩ (.bool wide)).setCell ⟨w.heap.size+1,1,none⟩ (.int .i64 a)).setCell ⟨w.heap.size+1,2,none⟩ (.bool rin)).setCell ⟨w.heap.size+1,3,none⟩ (.bool resc)).setCell ⟨w.heap.size+1,4,none⟩ (.bool rlong)).setCell ⟨w.heap.size+1,5,none⟩ (.string (co rheld))).setCell ⟨w.heap.size+1,6,none⟩ (.slice ad F.length cp)).setCell ⟨w.heap.size+1,7,none⟩ (.int .i64 0)) (w.heap.size+1) 138 138 #[.bool wide,.int .i64 a,.bool rin,.bool resc,.bool rlong,.string (co rheld),.slice ad F.length cp,.int .i64 0] (0,0) _ hfin underlying138 rfl rv;have hnf:Near (w.heap.size+1) w5 ((((((((w5.setCell ⟨w.heap.size+1,0,none⟩ (.bool wide)).setCell ⟨w.heap.size+1,1,none⟩ (.int .i64 a)).setCell ⟨w.heap.size+1,2,none⟩ (.bool rin)).setCell ⟨w.heap.size+1,3,none⟩ (.bool resc)).setCell ⟨w.heap.size+1,4,none⟩ (.bool rlong)).setCell ⟨w.heap.size+1,5,none⟩ (.string (co rheld))).setCell ⟨w.heap.size+1,6,none⟩ (.slice ad F.length cp)).setCell ⟨w.heap.size+1,7,none⟩ (.int .i64 0)):=(((((((Near.refl _ _).setCell 0 _).setCell 1 _).setCell 2 _).setCell 3 _).setCell 4 _).setCell 5 _).setCell 6 _ |>.setCell 7 _
   have hown:((((((((w5.setCell ⟨w.heap.size+1,0,none⟩ (.bool wide)).setCell ⟨w.heap.size+1,1,none⟩ (.int .i64 a)).setCell ⟨w.heap.size+1,2,none⟩ (.bool rin)).setCell ⟨w.heap.size+1,3,none⟩ (.bool resc)).setCell ⟨w.heap.size+1,4,none⟩ (.bool rlong)).setCell ⟨w.heap.size+1,5,none⟩ (.string (co rheld))).setCell ⟨w.heap.size+1,6,none⟩ (.slice ad F.length cp)).setCell ⟨w.heap.size+1,7,none⟩ (.int .i64 0)).ownsRow w.heap.size 141 2 (.slice ad F.length cp) F.length (cj F):=oz (uh HR5) hnf (by show w.heap.size+1<v4.heap.size;omega) (by show w.heap.size≤v4.heap.size;omega);have hbf:Below w.heap.size w ((((((((w5.setCell ⟨w.heap.size+1,0,none⟩ (.bool wide)).setCell ⟨w.heap.size+1,1,none⟩ (.int .i64 a)).setCell ⟨w.heap.size+1,2,none⟩ (.bool rin)).setCell ⟨w.heap.size+1,3,none⟩ (.bool resc)).setCell ⟨w.heap.size+1,4,none⟩ (.bool rlong)).setCell ⟨w.heap.size+1,5,none⟩ (.string (co rheld))).setCell ⟨w.heap.size+1,6,none⟩ (.slice ad F.length cp)).setCell ⟨w.heap.size+1,7,none⟩ (.int .i64 0)):=(uh HBl).drew.trans (((uh HB5).mono (by show w.heap.size≤v4.heap.size;omega)).trans (hnf.below (by omega) (by have:=(uh HB5).size;have h2:v4.heap.size≤w5.heap.size:=this;omega)));clear j0 j1 j2 j3 j4 j5 p0 p1 p2 p3 p4 p5 o0 o1 o2 o3 o4 o5 o6 o7 q0 q1 q2 q3 q4 q5 q6 q7 hfin hnf;generalize ((((((((w5.setCell ⟨w.heap.size+1,0,none⟩ (.bool wide)).setCell ⟨w.heap.size+1,1,none⟩ (.int .i64 a)).setCell ⟨w.heap.size+1,2,none⟩ (.bool rin)).setCell ⟨w.heap.size+1,3,none⟩ (.bool resc)).setCell ⟨w.heap.size+1,4,none⟩ (.bool rlong)).setCell ⟨w.heap.size+1,5,none⟩ (.string (co rheld))).setCell ⟨w.heap.size+1,6,none⟩ (.slice ad F.length cp)).setCell ⟨w.heap.size+1,7,none⟩ (.int .i64 0))=WE at *;go_wp2
   refine bodyPost_ret (v:=.agg #[.bool wide,.int .i64 a,.bool rin,.bool resc,.bool rlong,.string (co rheld),.slice ad F.length cp,.int .i64 0]) ?_ rfl ⟨_,rfl,hown,hbf⟩;rw [dW rfl];simp [asAddr,Result.andThen,hld]
end Go.Proofs.YtjebigodbnefiaaGreatDoor
