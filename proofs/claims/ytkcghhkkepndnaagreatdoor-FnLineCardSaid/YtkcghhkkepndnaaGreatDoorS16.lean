/- What is read of bytes as a numbered frame: the program's walk and the model's; memory that was there stands. -/
import Derived.Test.YtkcghhkkepndnaaGreatDoorS15
import Derived.Test.YtkcghhkkepndnaaGreatDoorShW
namespace Go.Proofs.YtkcghhkkepndnaaGreatDoor
open Go.RowKit
theorem info4n:(Tryz.prog.info? 96).map (·.size)=some 4:=by kernel_rfl
theorem load4n {W:World} {E:Nat} {x0 x1 x2 x3:Value} (h:W.heap[E]?=some (.cells #[x0,x1,x2,x3] 96)):(loadVar 96 ⟨E,0,none⟩).run Tryz.prog W=.ok (.agg #[x0,x1,x2,x3]) W :=
 run_loadVar_row (P:=Tryz.prog) _ _ 96 96 #[x0,x1,x2,x3] (0,0) _ h Tryz.underlying96 rfl info4n
theorem set4_nb {W:World} {E:Nat} {z0 z1 z2 z3:Value} {T:TypeId} (h:W.heap[E]?=some (.cells #[z0,z1,z2,z3] T)) (x0 x1 x2 x3:Value) :
  ((((W.setCell ⟨E,0,none⟩ x0).setCell ⟨E,1,none⟩ x1).setCell ⟨E,2,none⟩ x2).setCell ⟨E,3,none⟩ x3).heap[E]?=some (.cells #[x0,x1,x2,x3] T) :=
 heap_setCell_same _ _ 3 _ _ x3 (heap_setCell_same _ _ 2 _ _ x2 (heap_setCell_same _ _ 1 _ _ x1 (heap_setCell_same _ _ 0 _ _ x0 h)))
theorem set4_nbb {n:Nat} {w W:World} {E:Nat} (h:Below n w W) (hE:n≤E) (x0 x1 x2 x3:Value) :
  Below n w ((((W.setCell ⟨E,0,none⟩ x0).setCell ⟨E,1,none⟩ x1).setCell ⟨E,2,none⟩ x2).setCell ⟨E,3,none⟩ x3) :=
 (((h.setCell (p:=⟨E,0,none⟩) hE _).setCell (p:=⟨E,1,none⟩) hE _).setCell (p:=⟨E,2,none⟩) hE _).setCell (p:=⟨E,3,none⟩) hE _
theorem say_form (c:UInt8):∃ kd ns nr,∀ t,nbSay c t=⟨kd,ns,nr,t⟩:=by
 unfold nbSay
 by_cases h1:c.toNat % 32=1
 ·exact ⟨_,_,_,fun t=>by rw [if_pos h1]⟩
 by_cases h9:c.toNat % 32=9
 ·exact ⟨_,_,_,fun t=>by rw [if_neg h1,if_pos h9]⟩
 by_cases h2:c.toNat % 2=0
 ·exact ⟨_,_,_,fun t=>by rw [if_neg h1,if_neg h9,if_pos h2]⟩
 ·exact ⟨_,_,_,fun t=>by rw [if_neg h1,if_neg h9,if_neg h2]⟩
theorem read_no {t:ByteArray} (h:t.size=0∨201<t.size):nbRead t=nbZero:=by
 unfold nbRead
 have hl:t.data.toList.length=t.size:=by rw [Array.length_toList];rfl
 cases hq:t.data.toList with
 | nil=>rfl
 | cons c l =>
  rw [hq,List.length_cons] at hl
  refine if_neg ?_
  intro hk
  have:=of_decide_eq_true hk
  obtain ⟨kd,ns,nr,hs⟩:=say_form c
  rw [hs] at this
  dsimp only at this
  rw [txt_size] at this
  omega
set_option maxHeartbeats 2000000 in
theorem iNbRead_long (t:ByteArray) (w:World) (ht:t.size=0∨8000<t.size) (h2:t.size≤maxLen):Calls Tryz.prog 96 #[.string t] w fun e w'=>e=.returned (nbV nbZero)∧Below w.heap.size w w':=by
 unfold maxLen at h2
 rcases ht with ht | ht
 ·rw [empty_of ht]
  go_enter Tryz.func96,Tryz.ntmps96
  go_wp2
  refine bodyPost_ret (v:=.agg #[.int .i64 0,.int .i64 0,.int .i64 0,.string ⟨#[]⟩]) (by simp [results,Tryz.results96,go_sem]) rfl ⟨rfl,?_⟩
  exact (Below.refl _ _).alloc (Nat.le_refl _) _
 ·have d1:((t.size:Int) == 0)=false:=beq_eq_false_iff_ne.2 (by omega)
  have d2:(8000:Int)<(t.size:Int):=by omega
  go_enter Tryz.func96,Tryz.ntmps96
  go_wp2
  refine bodyPost_ret (v:=.agg #[.int .i64 0,.int .i64 0,.int .i64 0,.string ⟨#[]⟩]) (by simp [results,Tryz.results96,go_sem]) rfl ⟨rfl,?_⟩
  exact (Below.refl _ _).alloc (Nat.le_refl _) _
set_option maxHeartbeats 2000000 in
theorem iNbRead_at (t:ByteArray) (c:UInt8) (l:List UInt8) (hd:t.data.toList=c :: l) (w:World) (h2:t.size≤8000):Calls Tryz.prog 96 #[.string t] w fun e w'=>e=.returned (nbV (nbRead t))∧Below w.heap.size w w':=by
 have hl:t.data.toList.length=t.size:=by rw [Array.length_toList];rfl
 have hl2:=hl
 rw [hd,List.length_cons] at hl2
 have h0:0<t.size:=by omega
 have g0:t[0]'h0=c:=by
  show t.data[0]'h0=c
  rw [← Array.getElem_toList]
  simp [hd]
 have gx:t.extract 1 t.size=txt l:=by
  apply ByteArray.ext
  apply Array.toList_inj.1
  rw [ByteArray.data_extract,Array.toList_extract,hd]
  simp [txt]
  exact List.take_of_length_le (by omega)
 have d1:((t.size:Int) == 0)=false:=beq_eq_false_iff_ne.2 (by omega)
 have d2:¬ ((8000:Int)<(t.size:Int)):=by omega
 have hrd:nbRead t=if nbOk (nbSay c (txt l))=true then nbSay c (txt l) else nbZero:=by
  unfold nbRead
  rw [hd]
 rw [hrd]
 have C1:=hide fun v=>iSay c v
 have C2:=hide fun v=>cloneStr (txt l) v (by rw [txt_size];omega)
 have C3:=hide fun v=>iNbRight (nbSay c (txt l)) v
 obtain ⟨kd,ns,nr,hs⟩:=say_form c
 rw [hs] at C1 C3
 rw [hs]
 clear hs hrd hd
 generalize hu:txt l=u at *
 dsimp only [nbV] at C1 C3
 obtain ⟨R,hR⟩:∃ R:Nb,(if nbOk ⟨kd,ns,nr,u⟩=true then (⟨kd,ns,nr,u⟩:Nb) else nbZero)=R:=⟨_,rfl⟩
 rw [hR]
 have HR:=hide hR
 clear hR
 go_enter Tryz.func96,Tryz.ntmps96
 go_wp2_with fail
 refine (uh C1 _).mono ?_
 rintro e w2 ⟨rfl,hb2⟩
 have hs0:(w.alloc (.cells #[.int .i64 0,.int .i64 0,.int .i64 0,.string ⟨#[]⟩] 96)).heap.size=w.heap.size+1:=by simp
 have hO2:w2.heap[w.heap.size]?=some (.cells #[.int .i64 0,.int .i64 0,.int .i64 0,.string ⟨#[]⟩] 96):=(hb2.block w.heap.size (by rw [hs0];omega)).trans (heap_alloc_new w _)
 have hB2:Below w.heap.size w w2:=((Below.refl _ _).alloc (Nat.le_refl _) _).trans (hb2.mono (by rw [hs0];omega))
 have hl2:w.heap.size<w2.heap.size:=(Array.getElem?_eq_some_iff.1 hO2).1
 have HX:=hide (And.intro hO2 (And.intro hB2 hl2))
 clear hO2 hB2 hl2 hb2 hs0 C1
 go_wp2_with fail
 refine (uh C2 _).mono ?_
 rintro e w3 ⟨rfl,hb3⟩
 obtain ⟨hO2,hB2,hl2⟩:=uh HX
 have hs2:(w2.alloc (.cells #[.int .i64 kd,.int .i64 ns,.int .i64 nr,.string ⟨#[]⟩] 96)).heap.size=w2.heap.size+1:=by simp
 have hF3:w3.heap[w2.heap.size]?=some (.cells #[.int .i64 kd,.int .i64 ns,.int .i64 nr,.string ⟨#[]⟩] 96):=(hb3.block w2.heap.size (by rw [hs2];omega)).trans (heap_alloc_new w2 _)
 have hO3:w3.heap[w.heap.size]?=some (.cells #[.int .i64 0,.int .i64 0,.int .i64 0,.string ⟨#[]⟩] 96):=(hb3.block w.heap.size (by rw [hs2];omega)).trans ((Below.heap_alloc _ _ _ hl2).trans hO2)
 have hB3:Below w.heap.size w w3:=(hB2.alloc hB2.size _).trans (hb3.mono (by rw [hs2];omega))
 have hl3:w2.heap.size<w3.heap.size:=(Array.getElem?_eq_some_iff.1 hF3).1
 have z3:=frz hF3 3
 obtain ⟨c0,c1,c2,c3⟩:=row4n hF3
 have hne:¬ (w.heap.size=w2.heap.size):=by omega
 have hne':¬ (w2.heap.size=w.heap.size):=by omega
 have HX3:=hide (And.intro hF3 (And.intro hO3 (And.intro hB3 (And.intro hl2 hl3))))
 clear hF3 hO3 hB3 hl2 hl3 hs2 hO2 hB2 hb3 HX C2
 go_wp2_with fail
 refine (uh C3 _).mono ?_
 rintro e w4 ⟨rfl,hb4⟩
 obtain ⟨hF3,hO3,hB3,hl2,hl3⟩:=uh HX3
 have hF4:w4.heap[w2.heap.size]?=some (.cells #[.int .i64 kd,.int .i64 ns,.int .i64 nr,.string u] 96):=(hb4.block w2.heap.size (by rw [World.size_setCell];exact hl3)).trans (heap_setCell_same _ _ 3 _ _ _ hF3)
 have hO4:w4.heap[w.heap.size]?=some (.cells #[.int .i64 0,.int .i64 0,.int .i64 0,.string ⟨#[]⟩] 96):=(hb4.block w.heap.size (by rw [World.size_setCell];omega)).trans ((heap_setCell_other _ _ _ _ (by show w.heap.size≠w2.heap.size;omega)).trans hO3)
 have hB4:Below w.heap.size w w4:=(hB3.setCell (p:=⟨w2.heap.size,3,none⟩) (by show w.heap.size≤w2.heap.size;omega) _).trans (hb4.mono (by rw [World.size_setCell];omega))
 clear c0 c1 c2 c3 z3
 obtain ⟨c0,c1,c2,c3⟩:=row4n hF4
 obtain ⟨o0,o1,o2,o3⟩:=row4n hO4
 have z0:=frz hO4 0
 have z1:=frz hO4 1
 have z2:=frz hO4 2
 have z3:=frz hO4 3
 have HX4:=hide (And.intro hO4 (And.intro hB4 hl2))
 clear hF3 hO3 hB3 hl2 hl3 hF4 hO4 hB4 hb4 HX3 C3
 cases hk:nbOk ⟨kd,ns,nr,u⟩
 ·have hR:=uh HR
  rw [hk,if_neg (by decide)] at hR
  subst hR
  clear HR
  go_wp2
  refine bodyPost_ret (v:=.agg #[.int .i64 0,.int .i64 0,.int .i64 0,.string ⟨#[]⟩]) (by simp [results,Tryz.results96,asAddr,load4n (set4_nb (uh HX4).1 (.int .i64 0) (.int .i64 0) (.int .i64 0) (.string ⟨#[]⟩))]) rfl ⟨rfl,?_⟩
  exact set4_nbb (uh HX4).2.1 (Nat.le_refl _) _ _ _ _
 ·have hR:=uh HR
  rw [hk,if_pos rfl] at hR
  subst hR
  clear HR
  go_wp2
  refine bodyPost_ret (v:=.agg #[.int .i64 kd,.int .i64 ns,.int .i64 nr,.string u]) (by simp [results,Tryz.results96,asAddr,load4n (set4_nb (uh HX4).1 (.int .i64 kd) (.int .i64 ns) (.int .i64 nr) (.string u))]) rfl ⟨rfl,?_⟩
  exact set4_nbb (uh HX4).2.1 (Nat.le_refl _) _ _ _ _
theorem read_fst {t:ByteArray} {c:UInt8} {l:List UInt8} (hd:t.data.toList=c :: l):nbRead t=if (nbTold (nbFst c (txt l))).toList == t.toList then nbFst c (txt l) else nbZero:=by
 have ht:t=txt (c :: l):=by rw [← hd];rfl
 unfold nbRead
 rw [hd]
 dsimp only
 have hst:=say_told c l
 by_cases hk:nbOk (nbSay c (txt l))=true
 ·have h2:=hst.2 hk
  have he:((nbTold (nbFst c (txt l))).toList == t.toList)=true:=by rw [h2,ht];exact beq_self_eq_true _
  rw [if_pos hk,he,if_pos rfl]
  unfold nbSay nbFst
  by_cases h1:c.toNat % 32=1
  ·rw [if_pos h1,if_pos h1]
  by_cases h9:c.toNat % 32=9
  ·rw [if_neg h1,if_neg h1,if_pos h9,if_pos h9]
  rw [if_neg h1,if_neg h1,if_neg h9,if_neg h9]
  have h3:=of_decide_eq_true hk
  unfold nbSay at h3
  rw [if_neg h1,if_neg h9] at h3
  by_cases h5:c.toNat % 2=0
  ·rw [if_pos h5] at h3 ⊢
   dsimp only at h3
   rw [show c.toNat % 32 / 2=c.toNat / 2 % 8 by omega]
  ·rw [if_neg h5] at h3
   dsimp only at h3
   omega
 ·rw [if_neg hk]
  have he:((nbTold (nbFst c (txt l))).toList == t.toList)=false:=by
   refine beq_eq_false_iff_ne.2 fun e=>hk (hst.1 ?_)
   rw [← ht]
   rw [ByteArray.toList_eq,ByteArray.toList_eq] at e
   apply ByteArray.ext
   exact Array.toList_inj.1 e
  rw [he]
  rfl
theorem sRd {w W w2:World} {x0 x1 x2 x3 y0 y1 y2 y3:Value} {T:TypeId} (hW:W=(w.alloc (.cells #[x0,x1,x2,x3] T)).alloc (.cells #[y0,y1,y2,y3] T)) (hb2:Below W.heap.size W w2) :
  w2.heap[w.heap.size]?=some (.cells #[x0,x1,x2,x3] T)∧w2.heap[w.heap.size+1]?=some (.cells #[y0,y1,y2,y3] T)∧Below w.heap.size w w2∧w.heap.size+1<w2.heap.size:=by
 subst hW
 have hs0:(w.alloc (.cells #[x0,x1,x2,x3] T)).heap.size=w.heap.size+1:=by simp
 have hs1:((w.alloc (.cells #[x0,x1,x2,x3] T)).alloc (.cells #[y0,y1,y2,y3] T)).heap.size=w.heap.size+1+1:=by simp
 have hF:w2.heap[w.heap.size+1]?=some (.cells #[y0,y1,y2,y3] T):=(hb2.block (w.heap.size+1) (by rw [hs1];omega)).trans (by rw [← hs0];exact heap_alloc_new _ _)
 refine ⟨(hb2.block w.heap.size (by rw [hs1];omega)).trans ((Below.heap_alloc _ _ _ (by rw [hs0];omega)).trans (heap_alloc_new w _)),hF,?_,(Array.getElem?_eq_some_iff.1 hF).1⟩
 exact (((Below.refl _ _).alloc (Nat.le_refl _) _).alloc (by rw [hs0];omega) _).trans (hb2.mono (by rw [hs1];omega))
set_option maxHeartbeats 2000000 in
theorem sNbRead_long (t:ByteArray) (w:World) (ht:t.size=0∨201<t.size) (h2:t.size≤maxLen):Calls Tryz.prog 77 #[.string t] w fun e w'=>e=.returned (nbV nbZero)∧Below w.heap.size w w':=by
 unfold maxLen at h2
 rcases ht with ht | ht
 ·rw [empty_of ht]
  go_enter Tryz.func77,Tryz.ntmps77
  go_wp2
  refine bodyPost_ret (v:=.agg #[.int .i64 0,.int .i64 0,.int .i64 0,.string ⟨#[]⟩]) (by simp [results,Tryz.results77,go_sem]) rfl ⟨rfl,?_⟩
  exact (Below.refl _ _).alloc (Nat.le_refl _) _
 ·have d1:¬ ((t.size:Int)<1):=by omega
  have d2:(201:Int)<(t.size:Int):=by omega
  go_enter Tryz.func77,Tryz.ntmps77
  go_wp2
  refine bodyPost_ret (v:=.agg #[.int .i64 0,.int .i64 0,.int .i64 0,.string ⟨#[]⟩]) (by simp [results,Tryz.results77,go_sem]) rfl ⟨rfl,?_⟩
  exact (Below.refl _ _).alloc (Nat.le_refl _) _
set_option maxHeartbeats 2000000 in
theorem sNbRead_at (t:ByteArray) (c:UInt8) (l:List UInt8) (hd:t.data.toList=c :: l) (w:World) (h2:t.size≤201):Calls Tryz.prog 77 #[.string t] w fun e w'=>e=.returned (nbV (nbRead t))∧Below w.heap.size w w':=by
 rw [read_fst hd]
 have hl:t.data.toList.length=t.size:=by rw [Array.length_toList];rfl
 have hl2:=hl
 rw [hd,List.length_cons] at hl2
 have h0:0<t.size:=by omega
 have g0:(t[0]'h0).toNat=c.toNat:=by
  show (t.data[0]'h0).toNat=_
  rw [← Array.getElem_toList]
  simp [hd]
 have gx:t.extract 1 t.size=txt l:=by
  apply ByteArray.ext
  apply Array.toList_inj.1
  rw [ByteArray.data_extract,Array.toList_extract,hd]
  simp [txt]
  exact List.take_of_length_le (by omega)
 have d1:¬ ((t.size:Int)<1):=by omega
 have d2:¬ ((201:Int)<(t.size:Int)):=by omega
 have hc:=c.toNat_lt
 have C:=hide fun v=>sNbBytes (nbFst c (txt l)) v
 obtain ⟨R,hR⟩:∃ R:Nb,(if (nbTold (nbFst c (txt l))).toList == t.toList then nbFst c (txt l) else nbZero)=R:=⟨_,rfl⟩
 rw [hR]
 generalize nbTold (nbFst c (txt l))=V at *
 generalize hu:txt l=u at *
 clear hd hl hl2 hu
 unfold nbFst at C hR
 obtain ⟨E,hE⟩:∃ E,(V.toList == t.toList)=E:=⟨_,rfl⟩
 rw [hE] at hR
 generalize c.toNat=n at *
 dsimp only [nbV] at C
 by_cases h1:n % 32=1
 ·rw [if_pos h1] at C hR
  have d3:(n:Int) % 32=1:=by omega
  rw [show ((n / 32:Nat):Int)=(n:Int) / 32 by omega] at C hR
  cases E
  ·rw [if_neg (by decide)] at hR
   subst hR
   go_enter Tryz.func77,Tryz.ntmps77
   go_wp2_with fail
   refine (uh C _).mono ?_
   rintro e w2 ⟨rfl,hb2⟩
   obtain ⟨hO2,hF2,hB2,hl2⟩:=sRd (w:=w) rfl hb2
   obtain ⟨c0,c1,c2,c3⟩:=row4n hF2
   obtain ⟨o0,o1,o2,o3⟩:=row4n hO2
   have z0:=frz hO2 0
   have z1:=frz hO2 1
   have z2:=frz hO2 2
   have z3:=frz hO2 3
   have HX:=hide (And.intro hO2 hB2)
   clear hO2 hF2 hB2 hl2 hb2 C
   go_wp2
   refine bodyPost_ret (v:=.agg #[.int .i64 0,.int .i64 0,.int .i64 0,.string ⟨#[]⟩]) (by simp [results,Tryz.results77,asAddr,load4n (set4_nb (uh HX).1 (.int .i64 0) (.int .i64 0) (.int .i64 0) (.string ⟨#[]⟩))]) rfl ⟨rfl,?_⟩
   exact set4_nbb (uh HX).2 (Nat.le_refl _) _ _ _ _
  ·rw [if_pos (by decide)] at hR
   subst hR
   go_enter Tryz.func77,Tryz.ntmps77
   go_wp2_with fail
   refine (uh C _).mono ?_
   rintro e w2 ⟨rfl,hb2⟩
   obtain ⟨hO2,hF2,hB2,hl2⟩:=sRd (w:=w) rfl hb2
   obtain ⟨c0,c1,c2,c3⟩:=row4n hF2
   obtain ⟨o0,o1,o2,o3⟩:=row4n hO2
   have z0:=frz hO2 0
   have z1:=frz hO2 1
   have z2:=frz hO2 2
   have z3:=frz hO2 3
   have HX:=hide (And.intro hO2 hB2)
   clear hO2 hF2 hB2 hl2 hb2 C
   go_wp2
   refine bodyPost_ret (v:=.agg #[.int .i64 2,.int .i64 0,.int .i64 ((n:Int) / 32),.string u]) (by simp [results,Tryz.results77,asAddr,load4n (set4_nb (uh HX).1 (.int .i64 2) (.int .i64 0) (.int .i64 ((n:Int) / 32)) (.string u))]) rfl ⟨rfl,?_⟩
   exact set4_nbb (uh HX).2 (Nat.le_refl _) _ _ _ _
 by_cases h9:n % 32=9
 ·rw [if_neg h1,if_pos h9] at C hR
  have d3:(n:Int) % 32=9:=by omega
  rw [show ((n / 32:Nat):Int)=(n:Int) / 32 by omega] at C hR
  cases E
  ·rw [if_neg (by decide)] at hR
   subst hR
   go_enter Tryz.func77,Tryz.ntmps77
   go_wp2_with fail
   refine (uh C _).mono ?_
   rintro e w2 ⟨rfl,hb2⟩
   obtain ⟨hO2,hF2,hB2,hl2⟩:=sRd (w:=w) rfl hb2
   obtain ⟨c0,c1,c2,c3⟩:=row4n hF2
   obtain ⟨o0,o1,o2,o3⟩:=row4n hO2
   have z0:=frz hO2 0
   have z1:=frz hO2 1
   have z2:=frz hO2 2
   have z3:=frz hO2 3
   have HX:=hide (And.intro hO2 hB2)
   clear hO2 hF2 hB2 hl2 hb2 C
   go_wp2
   refine bodyPost_ret (v:=.agg #[.int .i64 0,.int .i64 0,.int .i64 0,.string ⟨#[]⟩]) (by simp [results,Tryz.results77,asAddr,load4n (set4_nb (uh HX).1 (.int .i64 0) (.int .i64 0) (.int .i64 0) (.string ⟨#[]⟩))]) rfl ⟨rfl,?_⟩
   exact set4_nbb (uh HX).2 (Nat.le_refl _) _ _ _ _
  ·rw [if_pos (by decide)] at hR
   subst hR
   go_enter Tryz.func77,Tryz.ntmps77
   go_wp2_with fail
   refine (uh C _).mono ?_
   rintro e w2 ⟨rfl,hb2⟩
   obtain ⟨hO2,hF2,hB2,hl2⟩:=sRd (w:=w) rfl hb2
   obtain ⟨c0,c1,c2,c3⟩:=row4n hF2
   obtain ⟨o0,o1,o2,o3⟩:=row4n hO2
   have z0:=frz hO2 0
   have z1:=frz hO2 1
   have z2:=frz hO2 2
   have z3:=frz hO2 3
   have HX:=hide (And.intro hO2 hB2)
   clear hO2 hF2 hB2 hl2 hb2 C
   go_wp2
   refine bodyPost_ret (v:=.agg #[.int .i64 3,.int .i64 0,.int .i64 ((n:Int) / 32),.string u]) (by simp [results,Tryz.results77,asAddr,load4n (set4_nb (uh HX).1 (.int .i64 3) (.int .i64 0) (.int .i64 ((n:Int) / 32)) (.string u))]) rfl ⟨rfl,?_⟩
   exact set4_nbb (uh HX).2 (Nat.le_refl _) _ _ _ _
 ·rw [if_neg h1,if_neg h9] at C hR
  have f1:((n:Int) % 32 == 1)=false:=beq_eq_false_iff_ne.2 (by omega)
  have f9:((n:Int) % 32 == 9)=false:=beq_eq_false_iff_ne.2 (by omega)
  rw [show ((n / 32:Nat):Int)=(n:Int) / 32 by omega] at C hR
  rw [show ((n / 2 % 8:Nat):Int)=(n:Int) / 2 % 8 by omega] at C hR
  cases E
  ·rw [if_neg (by decide)] at hR
   subst hR
   go_enter Tryz.func77,Tryz.ntmps77
   go_wp2_with fail
   refine (uh C _).mono ?_
   rintro e w2 ⟨rfl,hb2⟩
   obtain ⟨hO2,hF2,hB2,hl2⟩:=sRd (w:=w) rfl hb2
   obtain ⟨c0,c1,c2,c3⟩:=row4n hF2
   obtain ⟨o0,o1,o2,o3⟩:=row4n hO2
   have z0:=frz hO2 0
   have z1:=frz hO2 1
   have z2:=frz hO2 2
   have z3:=frz hO2 3
   have HX:=hide (And.intro hO2 hB2)
   clear hO2 hF2 hB2 hl2 hb2 C
   go_wp2
   refine bodyPost_ret (v:=.agg #[.int .i64 0,.int .i64 0,.int .i64 0,.string ⟨#[]⟩]) (by simp [results,Tryz.results77,asAddr,load4n (set4_nb (uh HX).1 (.int .i64 0) (.int .i64 0) (.int .i64 0) (.string ⟨#[]⟩))]) rfl ⟨rfl,?_⟩
   exact set4_nbb (uh HX).2 (Nat.le_refl _) _ _ _ _
  ·rw [if_pos (by decide)] at hR
   subst hR
   go_enter Tryz.func77,Tryz.ntmps77
   go_wp2_with fail
   refine (uh C _).mono ?_
   rintro e w2 ⟨rfl,hb2⟩
   obtain ⟨hO2,hF2,hB2,hl2⟩:=sRd (w:=w) rfl hb2
   obtain ⟨c0,c1,c2,c3⟩:=row4n hF2
   obtain ⟨o0,o1,o2,o3⟩:=row4n hO2
   have z0:=frz hO2 0
   have z1:=frz hO2 1
   have z2:=frz hO2 2
   have z3:=frz hO2 3
   have HX:=hide (And.intro hO2 hB2)
   clear hO2 hF2 hB2 hl2 hb2 C
   go_wp2
   refine bodyPost_ret (v:=.agg #[.int .i64 1,.int .i64 ((n:Int) / 2 % 8),.int .i64 ((n:Int) / 32),.string u]) (by simp [results,Tryz.results77,asAddr,load4n (set4_nb (uh HX).1 (.int .i64 1) (.int .i64 ((n:Int) / 2 % 8)) (.int .i64 ((n:Int) / 32)) (.string u))]) rfl ⟨rfl,?_⟩
   exact set4_nbb (uh HX).2 (Nat.le_refl _) _ _ _ _
theorem sNbRead (t:ByteArray) (w:World) (h2:t.size≤maxLen):Calls Tryz.prog 77 #[.string t] w fun e w'=>e=.returned (nbV (nbRead t))∧Below w.heap.size w w':=by
 by_cases h:t.size=0∨201<t.size
 ·rw [read_no h]
  exact sNbRead_long t w h h2
 ·cases hd:t.data.toList with
  | nil=>exact absurd (by have:=congrArg List.length hd;simpa using this) (fun e:t.size=0=>h (Or.inl e))
  | cons c l=>exact sNbRead_at t c l hd w (by omega)
theorem iNbRead (t:ByteArray) (w:World) (h2:t.size≤maxLen):Calls Tryz.prog 96 #[.string t] w fun e w'=>e=.returned (nbV (nbRead t))∧Below w.heap.size w w':=by
 by_cases h:t.size=0∨8000<t.size
 ·rw [read_no (by omega)]
  exact iNbRead_long t w h h2
 ·cases hd:t.data.toList with
  | nil=>exact absurd (by have:=congrArg List.length hd;simpa using this) (fun e:t.size=0=>h (Or.inl e))
  | cons c l=>exact iNbRead_at t c l hd w (by omega)
end Go.Proofs.YtkcghhkkepndnaaGreatDoor
