/- GoOver -/
import Derived.Test.YtjebigodbnefiaaGreatDoorS21
set_option maxHeartbeats 4000000
set_option maxRecDepth 100000
namespace Go.Proofs.YtjebigodbnefiaaGreatDoor
open Go.RowKit Go.Proofs.Tryz
theorem vZ (fs x:List Hd.Fd) (hx:x.length≤1):(fs ++ x).take 400=y_ (fs.take 400) x:=Hd.take_more 400 fs x hx
theorem zK (g:Hd.Gd) (s:Hd.St) (c:UInt8):(Hd.fnd g s c).length≤1:=by
 unfold Hd.fnd;split
 ·exact Hd.endOf_le g s
 ·simp
def Ov (w:World) (B g a:Nat) (wide:Bool) (s0:Hd.St) (t:ByteArray) (i:Nat) (inn esc:Bool) (wr:World):Prop :=
 ∃ long held,Hd.run a s0 (t.data.toList.take i)=⟨inn,esc,long,held⟩∧Dw wr B g wide long held ((Hd.finds (gd wide) a s0 (t.data.toList.take i)).take 400)∧Near B w wr
theorem Ov.next {w wr':World} {B g a:Nat} {wide:Bool} {s0:Hd.St} {t:ByteArray} {i:Nat} {s s':Hd.St} (hlt:i<t.size)
  (hs:Hd.run a s0 (t.data.toList.take i)=s) (hn:Hd.nxt a s t[i]=s')
  (hd:Dw wr' B g wide s'.long s'.held (y_ ((Hd.finds (gd wide) a s0 (t.data.toList.take i)).take 400) (Hd.fnd (gd wide) s t[i]))) (hr:Near B w wr'):Ov w B g a wide s0 t (i+1) s'.inn s'.esc wr':=by
 refine ⟨s'.long,s'.held,?_,?_,hr⟩
 ·rw [fg t i hlt,Hd.run_snoc,hs,hn]
 ·rw [fg t i hlt,Hd.finds_snoc,vZ _ _ (zK _ _ _),hs];exact hd
theorem jA (a:Nat) (s:Hd.St):Hd.nxt a s 0x7e=⟨true,false,false,[]⟩:=by simp [Hd.nxt]
theorem rt (a:Nat) (e l:Bool) (h:List UInt8) (c:UInt8) (h1:c≠0x7e):Hd.nxt a ⟨false,e,l,h⟩ c=⟨false,e,l,h⟩:=by simp [Hd.nxt,h1]
theorem ru (a:Nat) (s:Hd.St) (c:UInt8) (h1:c≠0x7e) (hm:Hd.mapped a c=true):Hd.nxt a s c=s:=by simp [Hd.nxt,h1,hm]
theorem zL (a:Nat):Hd.mapped a 0x7d=false:=by simp [Hd.mapped]
theorem x9 (a:Nat) (l:Bool) (h:List UInt8):Hd.nxt a ⟨true,false,l,h⟩ 0x7d=⟨true,true,l,h⟩:=by simp [Hd.nxt,zL]
theorem x_ (a:Nat) (l:Bool) (h:List UInt8) (c:UInt8) (h1:c≠0x7e) (hm:Hd.mapped a c=false) (h2:c≠0x7d) (hl:h.length≤304) :
  Hd.nxt a ⟨true,false,l,h⟩ c=⟨true,false,if h.length=304 then true else l,if h.length=304 then h else h ++ [c]⟩:=by
 by_cases e:h.length=304
 ·simp [Hd.nxt,h1,hm,h2,Hd.put,e]
 ·simp [Hd.nxt,h1,hm,h2,Hd.put,e,show ¬ 304≤h.length by omega]
theorem v7 (a:Nat) (l:Bool) (h:List UInt8) (c:UInt8) (h1:c≠0x7e) (hm:Hd.mapped a c=false) (hl:h.length≤304) :
  Hd.nxt a ⟨true,true,l,h⟩ c=⟨true,false,if h.length=304 then true else l,if h.length=304 then h else h ++ [c ^^^ 0x20]⟩:=by
 by_cases e:h.length=304
 ·simp [Hd.nxt,h1,hm,Hd.put,e]
 ·simp [Hd.nxt,h1,hm,Hd.put,e,show ¬ 304≤h.length by omega]
theorem io (g:Hd.Gd) (s:Hd.St) (c:UInt8) (h:c≠0x7e):Hd.fnd g s c=[]:=by simp [Hd.fnd,h]
theorem bZ {K:Act→World→Prop} {Q:Exit→Act→World→Prop} {l:Nat} {ac:Act} {wr:World}:Exit.then K Q (.goto l) ac wr=Q (.goto l) ac wr:=rfl
theorem bG {n:Nat} {Q:Exit→Act→World→Prop} {l:Nat} {ac:Act} {wr:World}:Exit.inBlock n Q (.goto l) ac wr=Q (.goto l) ac wr:=rfl
theorem th {JJ:Nat→Act→World→Prop} {Q QQ:Exit→Act→World→Prop} {l:Nat} {ac:Act} {wr:World} (hQ:rr JJ Q=QQ) (h:JJ l ac wr):QQ (.goto l) ac wr:=by subst hQ;exact h
theorem yb {JJ:Nat→Act→World→Prop} {Q QQ:Exit→Act→World→Prop} {ac:Act} {wr:World} (hQ:rr JJ Q=QQ) (h:Q .ret ac wr):QQ .ret ac wr:=by subst hQ;exact h
def J (w:World) (B g a:Nat) (wide:Bool) (s0:Hd.St) (t:ByteArray) (i0 e0:Bool) (l:Nat) (ac:Act) (wr:World):Prop :=
 ∃ (i:Nat) (x:Int) (u4 u5 u6 u7 u8 u9 u11 u12 u13 u14 u15 u16 u17 u18 u19 u20 u21 u22 u23 u24 u25 u26 u27 u28 u29 u30 u31 u32 u33 u34 u35 u36 u37 u38 u39 u40 u41 u42 u43 u44 u45 u46 u47 u48 u49 u50 u51 u52 u53 u54 u55 u56 u57 u58 u59 u60 u61 u62 u63 u64 u65 u66 u67 u68 u69 u70 u71 u72 u73 u74 u75 u76 u77:Value),ac={ tmps:=#[.pointer (some ⟨B,0,none⟩),.string t,.bool i0,.bool e0,u4,u5,u6,u7,u8,u9,.int .i64 x,u11,u12,u13,u14,u15,u16,u17,u18,u19,u20,u21,u22,u23,u24,u25,u26,u27,u28,u29,u30,u31,u32,u33,u34,u35,u36,u37,u38,u39,u40,u41,u42,u43,u44,u45,u46,u47,u48,u49,u50,u51,u52,u53,u54,u55,u56,u57,u58,u59,u60,u61,u62,u63,u64,u65,u66,u67,u68,u69,u70,u71,u72,u73,u74,u75,u76,u77],defers:=[] }∧x=(i:Int) - 1∧i≤t.size∧((l=0∧Ov w B g a wide s0 t i true true wr)∨(l=1∧Ov w B g a wide s0 t i true false wr)∨(l=2∧Ov w B g a wide s0 t i false false wr))
def mu (t:ByteArray) (ac:Act) (_:World):Nat:=t.size - (intOf (ac.tmps.getD 10 undef)+1).toNat
theorem v8 (w:World) (B g a:Nat) (wide:Bool) (s0:Hd.St) (t:ByteArray) (ht:t.size≤8000)
  (hw:Dw w B g wide s0.long s0.held []) (hg:w.cell? ⟨g,0,none⟩=some (.int .i64 a)) (hgB:g≠B) (hgw:g<w.heap.size) (ha:a<4294967296) (hr:Hd.Right s0) (hT:∀ wr,Near B w wr→Lib.Utf8Tabs 2 3 wr) :
  Calls prog 123 #[.pointer (some ⟨B,0,none⟩),.string t,.bool s0.inn,.bool s0.esc] w fun e w' =>
   e=.returned (.tuple #[.bool (Hd.run a s0 t.data.toList).inn,.bool (Hd.run a s0 t.data.toList).esc]) ∧
   Dw w' B g wide (Hd.run a s0 t.data.toList).long (Hd.run a s0 t.data.toList).held ((Hd.finds (gd wide) a s0 t.data.toList).take 400)∧Near B w w':=by
 have hBw:=hw.lt;have HR:Hid (∀ i long held,Hd.run a s0 (t.data.toList.take i)=⟨false,false,long,held⟩→long=false∧held=[]):=by
  refine aa fun i long held h=>?_
  have:=Hd.run_right a (t.data.toList.take i) s0 hr
  rw [h] at this;have k:=this.2 rfl;exact ⟨k.2.1,k.2.2⟩
 have HT:=aa hT;have HG:Hid (∀ wr,Near B w wr→wr.cell? ⟨g,0,none⟩=some (.int .i64 a)):=by
  refine aa fun wr hn=>?_
  rw [World.cell?_of_block (w:=w) (hn.block g (by omega) (by omega))];exact hg
 have HE:Hid (∀ wr inn esc,Ov w B g a wide s0 t t.size inn esc wr→(Hd.run a s0 t.data.toList).inn=inn∧(Hd.run a s0 t.data.toList).esc=esc ∧
   Dw wr B g wide (Hd.run a s0 t.data.toList).long (Hd.run a s0 t.data.toList).held ((Hd.finds (gd wide) a s0 t.data.toList).take 400)∧Near B w wr):=by
  refine aa fun wr inn esc ⟨long,held,h1,h2,h3⟩=>?_
  have e:t.data.toList.take t.size=t.data.toList:=List.take_of_length_le (by rw [← Lib.size_eq];exact zD _);rw [e] at h1 h2;rw [h1];exact ⟨rfl,rfl,h2,h3⟩
 have H0:Hid (Ov w B g a wide s0 t 0 s0.inn s0.esc w):=aa ⟨s0.long,s0.held,rfl,hw,Near.refl _ _⟩;have HI:Hid (s0.esc=true→s0.inn=true):=aa fun h=>by
  cases hx:s0.inn
  ·have:=(hr.2 hx).1;rw [this] at h;cases h
  ·rfl
 clear hw hg hr hT;obtain ⟨R,hR⟩:∃ R,Hd.run a s0 t.data.toList=R:=⟨_,rfl⟩;rw [hR] at HE;rw [hR];obtain ⟨rin,resc,rlong,rheld⟩:=R;clear hR;generalize (Hd.finds (gd wide) a s0 t.data.toList).take 400=F at *;generalize s0.inn=i0 at *;generalize s0.esc=e0 at *;go_enter func123,ntmps123
 go_wp2
 refine vG (J w B g a wide s0 t i0 e0) (mu t) ?_ ?_
 ·rintro l ac wr ⟨i,x,u4,u5,u6,u7,u8,u9,u11,u12,u13,u14,u15,u16,u17,u18,u19,u20,u21,u22,u23,u24,u25,u26,u27,u28,u29,u30,u31,u32,u33,u34,u35,u36,u37,u38,u39,u40,u41,u42,u43,u44,u45,u46,u47,u48,u49,u50,u51,u52,u53,u54,u55,u56,u57,u58,u59,u60,u61,u62,u63,u64,u65,u66,u67,u68,u69,u70,u71,u72,u73,u74,u75,u76,u77,rfl,rfl,hi,ho⟩;have hmu:mu t { tmps:=#[.pointer (some ⟨B,0,none⟩),.string t,.bool i0,.bool e0,u4,u5,u6,u7,u8,u9,.int .i64 ((i:Int) - 1),u11,u12,u13,u14,u15,u16,u17,u18,u19,u20,u21,u22,u23,u24,u25,u26,u27,u28,u29,u30,u31,u32,u33,u34,u35,u36,u37,u38,u39,u40,u41,u42,u43,u44,u45,u46,u47,u48,u49,u50,u51,u52,u53,u54,u55,u56,u57,u58,u59,u60,u61,u62,u63,u64,u65,u66,u67,u68,u69,u70,u71,u72,u73,u74,u75,u76,u77],defers:=[] } wr=t.size - i:=by
   show t.size - ((i:Int) - 1+1).toNat=t.size - i
   omega
  rw [hmu];clear hmu;have d2:((i:Int) - 1+1)=(i:Int):=by omega
  rcases ho with ⟨rfl,ho⟩ | ⟨rfl,ho⟩ | ⟨rfl,ho⟩
  ·refine ⟨_,rfl,?_⟩;go_hide hQ
   by_cases hlt:i<t.size
   ·obtain ⟨long,held,hrun,hdw,hnr⟩:=ho;have d3:((i:Int) == (t.size:Int))=false:=beq_eq_false_iff_ne.2 (by omega);have hnx:=aa fun (s':Hd.St) (wr':World)=>Ov.next (w:=w) (wr':=wr') (s':=s') (B:=B) (g:=g) (wide:=wide) hlt hrun
    have hl304:held.length≤304:=by obtain ⟨_,_,k⟩:=hdw;exact k.hl
    have c2:wr.cell? ⟨B,2,none⟩=some (.func (.func 75) #[] #[.pointer (some ⟨g,0,none⟩)]):=by
     obtain ⟨cs,k1,k2⟩:=hdw;rw [cr k1];exact k2.c2
    have CM:=aa (ij a t[i] g wr ha (uh HG wr hnr));have HDw:=aa hdw;have HN:=aa hnr;by_cases e1:t[i]=0x7e
    ·have d4:((t[i].toNat:Int) == 126)=true:=by rw [e1];rfl
     have C:Hid (Calls prog 139 #[.pointer (some ⟨B,0,none⟩),.agg #[.int .i64 4,.string ⟨#[]⟩]] wr fun e w'=>e=.returned (.tuple #[])∧Dw w' B g wide false [] (y_ ((Hd.finds (gd wide) a s0 (t.data.toList.take i)).take 400) [⟨4,[]⟩])∧Near B wr w'):=aa (om wr B g wide long held _ ⟨4,[]⟩ hdw);have HX:=aa fun wr' (h1:Dw wr' B g wide false [] (y_ ((Hd.finds (gd wide) a s0 (t.data.toList.take i)).take 400) [⟨4,[]⟩])) (h2:Near B w wr')=>uh hnx ⟨true,false,false,[]⟩ wr' (by rw [e1];exact jA a _) (by rw [e1];exact h1) h2
     clear hdw hnr hrun hnx e1;go_wp2_with fail
     refine (uh C).mono ?_;rintro e w2 ⟨rfl,hd2,hn2⟩;have HO:=aa (uh HX w2 hd2 ((uh HN).trans hn2));clear hd2 hn2;go_wp2
     go_step3
     repeat first | rw [bZ] | rw [bG]
     refine th hQ ⟨⟨i+1,(i:Int),_,_,_,_,_,_,_,_,_,_,_,_,_,_,_,_,_,_,_,_,_,_,_,_,_,_,_,_,_,_,_,_,_,_,_,_,_,_,_,_,_,_,_,_,_,_,_,_,_,_,_,_,_,_,_,_,_,_,_,_,_,_,_,_,_,_,_,_,_,_,_,_,_,rfl,by omega,by omega,Or.inr (Or.inl ⟨rfl,uh HO⟩)⟩,?_⟩;show t.size - ((i:Int)+1).toNat<t.size - i
     omega
    ·have d4:((t[i].toNat:Int) == 126)=false:=vC e1;cases hm:Hd.mapped a t[i]
     ·have C:=aa (AD wr B g wide long held _ (t[i] ^^^ 0x20) hdw);have HX:=aa fun wr' (h1:Dw wr' B g wide (if held.length=304 then true else long) (if held.length=304 then held else held ++ [t[i] ^^^ 0x20]) ((Hd.finds (gd wide) a s0 (t.data.toList.take i)).take 400)) (h2:Near B w wr')=>uh hnx ⟨true,false,if held.length=304 then true else long,if held.length=304 then held else held ++ [t[i] ^^^ 0x20]⟩ wr' (v7 a long held t[i] e1 hm hl304) (by rw [io _ _ _ e1,eo];exact h1) h2
      have hxo:=yZ t[i];rw [hm] at CM;clear hdw hnr hrun hnx e1 hm
      go_wp2_with (first
       | (go_at_call 75;refine (uh CM).mono ?_;rintro e w1 ⟨rfl,hww⟩;replace hww:=hww.symm;subst hww))
      refine (uh C).mono ?_;rintro e w2 ⟨rfl,hd2,hn2⟩;have HO:=aa (uh HX w2 hd2 ((uh HN).trans hn2));clear hd2 hn2;go_wp2
      go_step3
      repeat first | rw [bZ] | rw [bG]
      refine th hQ ⟨⟨i+1,(i:Int),_,_,_,_,_,_,_,_,_,_,_,_,_,_,_,_,_,_,_,_,_,_,_,_,_,_,_,_,_,_,_,_,_,_,_,_,_,_,_,_,_,_,_,_,_,_,_,_,_,_,_,_,_,_,_,_,_,_,_,_,_,_,_,_,_,_,_,_,_,_,_,_,_,rfl,by omega,by omega,Or.inr (Or.inl ⟨rfl,uh HO⟩)⟩,?_⟩;show t.size - ((i:Int)+1).toNat<t.size - i
      omega
     ·have HO:=aa (uh hnx ⟨true,true,long,held⟩ wr (ru a _ _ e1 hm) (by rw [io _ _ _ e1,eo];exact hdw) hnr);rw [hm] at CM;clear hdw hnr hrun hnx e1 hm
      go_wp2_with (first
       | (go_at_call 75;refine (uh CM).mono ?_;rintro e w1 ⟨rfl,hww⟩;replace hww:=hww.symm;subst hww))
      go_step3
      repeat first | rw [bZ] | rw [bG]
      refine th hQ ⟨⟨i+1,(i:Int),_,_,_,_,_,_,_,_,_,_,_,_,_,_,_,_,_,_,_,_,_,_,_,_,_,_,_,_,_,_,_,_,_,_,_,_,_,_,_,_,_,_,_,_,_,_,_,_,_,_,_,_,_,_,_,_,_,_,_,_,_,_,_,_,_,_,_,_,_,_,_,_,_,rfl,by omega,by omega,Or.inl ⟨rfl,uh HO⟩⟩,?_⟩;show t.size - ((i:Int)+1).toNat<t.size - i
      omega
   ·obtain rfl:i=t.size:=by omega
    have d3:((t.size:Int) == (t.size:Int))=true:=beq_self_eq_true _;obtain ⟨rfl,rfl,h3,h4⟩:=uh HE wr _ _ ho;have H3:=aa h3;have H4:=aa h4;clear ho h3 h4;go_wp2
    refine yb hQ ?_;refine bodyPost_ret (v:=.tuple #[.bool true,.bool true]) (by simp [results,results123,go_sem]) rfl ⟨rfl,uh H3,uh H4⟩
  ·refine ⟨_,rfl,?_⟩;go_hide hQ
   by_cases hlt:i<t.size
   ·obtain ⟨long,held,hrun,hdw,hnr⟩:=ho;have d3:((i:Int) == (t.size:Int))=false:=beq_eq_false_iff_ne.2 (by omega);have hnx:=aa fun (s':Hd.St) (wr':World)=>Ov.next (w:=w) (wr':=wr') (s':=s') (B:=B) (g:=g) (wide:=wide) hlt hrun
    have hl304:held.length≤304:=by obtain ⟨_,_,k⟩:=hdw;exact k.hl
    have c2:wr.cell? ⟨B,2,none⟩=some (.func (.func 75) #[] #[.pointer (some ⟨g,0,none⟩)]):=by
     obtain ⟨cs,k1,k2⟩:=hdw;rw [cr k1];exact k2.c2
    have CM:=aa (ij a t[i] g wr ha (uh HG wr hnr));have HDw:=aa hdw;have HN:=aa hnr;by_cases e1:t[i]=0x7e
    ·have d4:((t[i].toNat:Int) == 126)=true:=by rw [e1];rfl
     have C:=aa (Bm wr B g wide long held _ hdw (uh HT wr hnr));have HX:=aa fun wr' (h1:Dw wr' B g wide false [] (y_ ((Hd.finds (gd wide) a s0 (t.data.toList.take i)).take 400) (Hd.endOf (gd wide) ⟨true,false,long,held⟩))) (h2:Near B w wr')=>uh hnx ⟨true,false,false,[]⟩ wr' (by rw [e1];exact jA a _) (by rw [e1];exact h1) h2
     clear hdw hnr hrun hnx e1;go_wp2_with fail
     refine (uh C).mono ?_;rintro e w2 ⟨rfl,hd2,hn2⟩;have HO:=aa (uh HX w2 hd2 ((uh HN).trans hn2));clear hd2 hn2;go_wp2
     go_step3
     repeat first | rw [bZ] | rw [bG]
     refine th hQ ⟨⟨i+1,(i:Int),_,_,_,_,_,_,_,_,_,_,_,_,_,_,_,_,_,_,_,_,_,_,_,_,_,_,_,_,_,_,_,_,_,_,_,_,_,_,_,_,_,_,_,_,_,_,_,_,_,_,_,_,_,_,_,_,_,_,_,_,_,_,_,_,_,_,_,_,_,_,_,_,_,rfl,by omega,by omega,Or.inr (Or.inl ⟨rfl,uh HO⟩)⟩,?_⟩;show t.size - ((i:Int)+1).toNat<t.size - i
     omega
    ·have d4:((t[i].toNat:Int) == 126)=false:=vC e1;cases hm:Hd.mapped a t[i]
     ·rw [hm] at CM;by_cases e2:t[i]=0x7d
      ·have d5:((t[i].toNat:Int) == 125)=true:=by rw [e2];rfl
       have HO:=aa (uh hnx ⟨true,true,long,held⟩ wr (by rw [e2];exact x9 a _ _) (by rw [io _ _ _ e1,eo];exact hdw) hnr);clear hdw hnr hrun hnx e1 hm e2
       go_wp2_with (first
        | (go_at_call 75;refine (uh CM).mono ?_;rintro e w1 ⟨rfl,hww⟩;replace hww:=hww.symm;subst hww))
       go_step3
       repeat first | rw [bZ] | rw [bG]
       refine th hQ ⟨⟨i+1,(i:Int),_,_,_,_,_,_,_,_,_,_,_,_,_,_,_,_,_,_,_,_,_,_,_,_,_,_,_,_,_,_,_,_,_,_,_,_,_,_,_,_,_,_,_,_,_,_,_,_,_,_,_,_,_,_,_,_,_,_,_,_,_,_,_,_,_,_,_,_,_,_,_,_,_,rfl,by omega,by omega,Or.inl ⟨rfl,uh HO⟩⟩,?_⟩;show t.size - ((i:Int)+1).toNat<t.size - i
       omega
      ·have d5:((t[i].toNat:Int) == 125)=false:=vC e2;have C:=aa (AD wr B g wide long held _ t[i] hdw);have HX:=aa fun wr' (h1:Dw wr' B g wide (if held.length=304 then true else long) (if held.length=304 then held else held ++ [t[i]]) ((Hd.finds (gd wide) a s0 (t.data.toList.take i)).take 400)) (h2:Near B w wr')=>uh hnx ⟨true,false,if held.length=304 then true else long,if held.length=304 then held else held ++ [t[i]]⟩ wr' (x_ a long held t[i] e1 hm e2 hl304) (by rw [io _ _ _ e1,eo];exact h1) h2
       clear hdw hnr hrun hnx e1 hm e2
       go_wp2_with (first
        | (go_at_call 75;refine (uh CM).mono ?_;rintro e w1 ⟨rfl,hww⟩;replace hww:=hww.symm;subst hww))
       refine (uh C).mono ?_;rintro e w2 ⟨rfl,hd2,hn2⟩;have HO:=aa (uh HX w2 hd2 ((uh HN).trans hn2));clear hd2 hn2;go_wp2
       go_step3
       repeat first | rw [bZ] | rw [bG]
       refine th hQ ⟨⟨i+1,(i:Int),_,_,_,_,_,_,_,_,_,_,_,_,_,_,_,_,_,_,_,_,_,_,_,_,_,_,_,_,_,_,_,_,_,_,_,_,_,_,_,_,_,_,_,_,_,_,_,_,_,_,_,_,_,_,_,_,_,_,_,_,_,_,_,_,_,_,_,_,_,_,_,_,_,rfl,by omega,by omega,Or.inr (Or.inl ⟨rfl,uh HO⟩)⟩,?_⟩;show t.size - ((i:Int)+1).toNat<t.size - i
       omega
     ·have HO:=aa (uh hnx ⟨true,false,long,held⟩ wr (ru a _ _ e1 hm) (by rw [io _ _ _ e1,eo];exact hdw) hnr);rw [hm] at CM;clear hdw hnr hrun hnx e1 hm
      go_wp2_with (first
       | (go_at_call 75;refine (uh CM).mono ?_;rintro e w1 ⟨rfl,hww⟩;replace hww:=hww.symm;subst hww))
      go_step3
      repeat first | rw [bZ] | rw [bG]
      refine th hQ ⟨⟨i+1,(i:Int),_,_,_,_,_,_,_,_,_,_,_,_,_,_,_,_,_,_,_,_,_,_,_,_,_,_,_,_,_,_,_,_,_,_,_,_,_,_,_,_,_,_,_,_,_,_,_,_,_,_,_,_,_,_,_,_,_,_,_,_,_,_,_,_,_,_,_,_,_,_,_,_,_,rfl,by omega,by omega,Or.inr (Or.inl ⟨rfl,uh HO⟩)⟩,?_⟩;show t.size - ((i:Int)+1).toNat<t.size - i
      omega
   ·obtain rfl:i=t.size:=by omega
    have d3:((t.size:Int) == (t.size:Int))=true:=beq_self_eq_true _;obtain ⟨rfl,rfl,h3,h4⟩:=uh HE wr _ _ ho;have H3:=aa h3;have H4:=aa h4;clear ho h3 h4;go_wp2
    refine yb hQ ?_;refine bodyPost_ret (v:=.tuple #[.bool true,.bool false]) (by simp [results,results123,go_sem]) rfl ⟨rfl,uh H3,uh H4⟩
  ·refine ⟨_,rfl,?_⟩;go_hide hQ
   by_cases hlt:i<t.size
   ·obtain ⟨long,held,hrun,hdw,hnr⟩:=ho;obtain ⟨rfl,rfl⟩:=uh HR i long held hrun;have d3:((i:Int) == (t.size:Int))=false:=beq_eq_false_iff_ne.2 (by omega);have hnx:=aa fun (s':Hd.St) (wr':World)=>Ov.next (w:=w) (wr':=wr') (s':=s') (B:=B) (g:=g) (wide:=wide) hlt hrun
    by_cases e1:t[i]=0x7e
    ·have d4:((t[i].toNat:Int) == 126)=true:=by rw [e1];rfl
     have HO:=aa (uh hnx ⟨true,false,false,[]⟩ wr (by rw [e1];exact jA a _) (by rw [e1,show Hd.fnd (gd wide) ⟨false,false,false,[]⟩ 0x7e=[] from rfl,eo];exact hdw) hnr);clear hdw hnr hrun hnx e1;go_wp2
     go_step3
     repeat first | rw [bZ] | rw [bG]
     refine th hQ ⟨⟨i+1,(i:Int),_,_,_,_,_,_,_,_,_,_,_,_,_,_,_,_,_,_,_,_,_,_,_,_,_,_,_,_,_,_,_,_,_,_,_,_,_,_,_,_,_,_,_,_,_,_,_,_,_,_,_,_,_,_,_,_,_,_,_,_,_,_,_,_,_,_,_,_,_,_,_,_,_,rfl,by omega,by omega,Or.inr (Or.inl ⟨rfl,uh HO⟩)⟩,?_⟩;show t.size - ((i:Int)+1).toNat<t.size - i
     omega
    ·have d4:((t[i].toNat:Int) == 126)=false:=vC e1;have HO:=aa (uh hnx ⟨false,false,false,[]⟩ wr (rt a _ _ _ _ e1) (by rw [io _ _ _ e1,eo];exact hdw) hnr);clear hdw hnr hrun hnx e1;go_wp2
     go_step3
     repeat first | rw [bZ] | rw [bG]
     refine th hQ ⟨⟨i+1,(i:Int),_,_,_,_,_,_,_,_,_,_,_,_,_,_,_,_,_,_,_,_,_,_,_,_,_,_,_,_,_,_,_,_,_,_,_,_,_,_,_,_,_,_,_,_,_,_,_,_,_,_,_,_,_,_,_,_,_,_,_,_,_,_,_,_,_,_,_,_,_,_,_,_,_,rfl,by omega,by omega,Or.inr (Or.inr ⟨rfl,uh HO⟩)⟩,?_⟩;show t.size - ((i:Int)+1).toNat<t.size - i
     omega
   ·obtain rfl:i=t.size:=by omega
    have d3:((t.size:Int) == (t.size:Int))=true:=beq_self_eq_true _;obtain ⟨rfl,rfl,h3,h4⟩:=uh HE wr _ _ ho;have H3:=aa h3;have H4:=aa h4;clear ho h3 h4;go_wp2
    refine yb hQ ?_;refine bodyPost_ret (v:=.tuple #[.bool false,.bool false]) (by simp [results,results123,go_sem]) rfl ⟨rfl,uh H3,uh H4⟩
 ·have hmu0:True:=trivial;cases e0
  ·cases i0
   ·go_hide hQ
    by_cases hlt:0<t.size
    ·obtain ⟨long,held,hrun,hdw,hnr⟩:=uh H0;obtain ⟨rfl,rfl⟩:=uh HR 0 long held hrun;have d3:((0:Int) == (t.size:Int))=false:=beq_eq_false_iff_ne.2 (by omega);have hnx:=aa fun (s':Hd.St) (wr':World)=>Ov.next (w:=w) (wr':=wr') (s':=s') (B:=B) (g:=g) (wide:=wide) hlt hrun
     by_cases e1:t[0]=0x7e
     ·have d4:((t[0].toNat:Int) == 126)=true:=by rw [e1];rfl
      have HO:=aa (uh hnx ⟨true,false,false,[]⟩ w (by rw [e1];exact jA a _) (by rw [e1,show Hd.fnd (gd wide) ⟨false,false,false,[]⟩ 0x7e=[] from rfl,eo];exact hdw) hnr);clear hdw hnr hrun hnx e1;go_wp2
      go_step3
      go_wp2
      go_step3
      repeat first | rw [bZ] | rw [bG]
      exact th hQ ⟨0+1,0,_,_,_,_,_,_,_,_,_,_,_,_,_,_,_,_,_,_,_,_,_,_,_,_,_,_,_,_,_,_,_,_,_,_,_,_,_,_,_,_,_,_,_,_,_,_,_,_,_,_,_,_,_,_,_,_,_,_,_,_,_,_,_,_,_,_,_,_,_,_,_,_,_,rfl,by omega,by omega,Or.inr (Or.inl ⟨rfl,uh HO⟩)⟩
     ·have d4:((t[0].toNat:Int) == 126)=false:=vC e1;have HO:=aa (uh hnx ⟨false,false,false,[]⟩ w (rt a _ _ _ _ e1) (by rw [io _ _ _ e1,eo];exact hdw) hnr);clear hdw hnr hrun hnx e1;go_wp2
      go_step3
      go_wp2
      go_step3
      repeat first | rw [bZ] | rw [bG]
      exact th hQ ⟨0+1,0,_,_,_,_,_,_,_,_,_,_,_,_,_,_,_,_,_,_,_,_,_,_,_,_,_,_,_,_,_,_,_,_,_,_,_,_,_,_,_,_,_,_,_,_,_,_,_,_,_,_,_,_,_,_,_,_,_,_,_,_,_,_,_,_,_,_,_,_,_,_,_,_,_,rfl,by omega,by omega,Or.inr (Or.inr ⟨rfl,uh HO⟩)⟩
    ·have hz:t.size=0:=by omega
     have d3:((0:Int) == (t.size:Int))=true:=beq_iff_eq.2 (by omega);have H0':=uh H0;rw [show (0:Nat)=t.size from hz.symm] at H0';obtain ⟨rfl,rfl,h3,h4⟩:=uh HE w _ _ H0';have H3:=aa h3;have H4:=aa h4;clear H0' h3 h4;go_wp2
     go_step3
     go_wp2
     refine yb hQ ?_;refine bodyPost_ret (v:=.tuple #[.bool false,.bool false]) (by simp [results,results123,go_sem]) rfl ⟨rfl,uh H3,uh H4⟩
   ·go_hide hQ
    go_wp2
    go_step3
    repeat first | rw [bZ] | rw [bG]
    exact th hQ ⟨0,-1,_,_,_,_,_,_,_,_,_,_,_,_,_,_,_,_,_,_,_,_,_,_,_,_,_,_,_,_,_,_,_,_,_,_,_,_,_,_,_,_,_,_,_,_,_,_,_,_,_,_,_,_,_,_,_,_,_,_,_,_,_,_,_,_,_,_,_,_,_,_,_,_,_,rfl,by omega,by omega,Or.inr (Or.inl ⟨rfl,uh H0⟩)⟩
  ·have hi:=uh HI rfl;subst hi;go_hide hQ
   go_wp2
   go_step3
   repeat first | rw [bZ] | rw [bG]
   exact th hQ ⟨0,-1,_,_,_,_,_,_,_,_,_,_,_,_,_,_,_,_,_,_,_,_,_,_,_,_,_,_,_,_,_,_,_,_,_,_,_,_,_,_,_,_,_,_,_,_,_,_,_,_,_,_,_,_,_,_,_,_,_,_,_,_,_,_,_,_,_,_,_,_,_,_,_,_,_,rfl,by omega,by omega,Or.inl ⟨rfl,uh H0⟩⟩
end Go.Proofs.YtjebigodbnefiaaGreatDoor
