/- OptsOf OptRd CfM HrF HrL -/
import Derived.Test.YtahpjlbaagkdoaaGreatDoorS23
import Derived.Test.YtahpjlbaagkdoaaGreatDoorS19
set_option maxHeartbeats 8000000
set_option maxRecDepth 100000
namespace Go.Proofs.YtahpjlbaagkdoaaGreatDoor
open Go.RowKit Go.Proofs.Tryz
def slen:Value→Nat
  | .slice _ n _=>n
  | _=>0
theorem bad2 {n:UInt8} {r:List UInt8} (h:n.toNat<2∨22<n.toNat∨r.length+2<n.toNat):bad 2 20 n.toNat r=true:=decide_eq_true (by omega)
theorem good2 {n:UInt8} {r:List UInt8} (h:¬ (n.toNat<2∨22<n.toNat∨r.length+2<n.toNat)):bad 2 20 n.toNat r=false:=decide_eq_false (by omega)
theorem acc_none (out:List Op.Opt) {k n:UInt8} {r:List UInt8} (h:n.toNat<2∨22<n.toNat∨r.length+2<n.toNat):Op.acc out (k :: n :: r)=none:=by
  rcases h with h | h | h
  · exact Op.acc_bad out (Or.inl h)
  · exact Op.acc_long out h
  · exact Op.acc_bad out (Or.inr h)
theorem optionLayout (w:World):Calls prog 155 #[] w fun e w'=>e=.returned (.agg #[.slice (some ⟨w.heap.size+1,0,none⟩) 3 3,.int .i64 2,.int .i64 20,.int .i64 3]) ∧
    w'.heap[w.heap.size+1]?=some (.cells #[.int .i64 0,.int .i64 1,.int .i64 3] 242)∧Below w.heap.size w w':=by
  go_enter func155,ntmps155
  go_wp2
  refine bodyPost_ret (v:=.agg #[.slice (some ⟨w.heap.size+1,0,none⟩) 3 3,.int .i64 2,.int .i64 20,.int .i64 3]) (by simp [results,results155,go_sem]) rfl ⟨rfl,?_,((Below.refl _ _).alloc (Nat.le_refl _) _).alloc (by simp) _⟩;have h:=heap_alloc_new (w.alloc (.cells #[.slice (some ⟨w.heap.size+1,0,none⟩) 3 3,.int .i64 2,.int .i64 20,.int .i64 3] 211)) (.cells #[.int .i64 0,.int .i64 1,.int .i64 3] 242);rw [show (w.alloc (.cells #[.slice (some ⟨w.heap.size+1,0,none⟩) 3 3,.int .i64 2,.int .i64 20,.int .i64 3] 211)).heap.size=w.heap.size+1 by simp] at h;exact h
theorem row_one1 {w:World} {base:Nat} {sa:Option Addr} {n sc:Nat} {xs:List Value} (h:w.ownsRow base 2 1 (.slice sa n sc) n xs) (hn:0<n):∃ g,sa=some ⟨g,0,none⟩∧base≤g∧g<w.heap.size∧∀ i x,xs[i]?=some x→w.cell? ⟨g,i,none⟩=some x:=by
  rcases h.2 with ⟨_,h0⟩ | ⟨g,cap,cur,h1,h2,h3,h4,h5,h6,h7⟩
  · omega
  · simp only [Value.slice.injEq,true_and] at h1
    obtain ⟨rfl,rfl⟩:=h1;refine ⟨g,rfl,h2,(ge.1 h3).1,fun i x hx=>?_⟩;rw [cr h3,← hx,← h7,List.getElem?_take,if_pos,Array.getElem?_toList];have:=(List.getElem?_eq_some_iff.1 hx).1
    have hl:=h.1;omega
def OptsOut (w w':World) (res:Option (List Op.Opt)) (e:Ending):Prop :=
  (res=none∧e=.returned (.tuple #[.slice none 0 0,wrong 3])∧Below w.heap.size w w') ∨
    (∃ L ad cp,res=some L∧e=.returned (.tuple #[.slice ad L.length cp,.nilIface])∧w'.ownsRow w.heap.size 116 2 (.slice ad L.length cp) L.length (ocells L)∧Below w.heap.size w w')
theorem optionsOf (w:World) (B:Nat) (v:Value) (l:List UInt8) (hl8:l.length≤8000) (hB:B<w.heap.size) (hv:Rest w B v l) :
    Calls prog 140 #[v] w fun e w'=>OptsOut w w' (Op.acc [] l) e:=by
  obtain ⟨i0,hi0,hz0,hz1,hz2⟩:=oinfo;obtain ⟨RES,hRES⟩:∃ R,Op.acc [] l=R:=⟨_,rfl⟩;rw [hRES];have HV:=hide hv;obtain ⟨off0,cap0,hvf,_⟩:=hv;subst hvf;go_enter func140,ntmps140
  go_wp2_with fail
  go_loopw [0,4] (fun x y wr=>∃ (l':List UInt8) (out:List Op.Opt),(∃ o c,x=.slice (some ⟨B,o,none⟩) l'.length c)∧Rest wr B x l'∧l'.length≤8000∧(∃ a c,y=.slice a out.length c)∧wr.ownsRow w.heap.size 116 2 y out.length (ocells out)∧Op.right out=true∧Op.acc out l'=RES∧Below w.heap.size w wr) (fun x _ _=>slen x)
  case atStart=>exact ⟨l,[],⟨_,_,rfl⟩,uh HV,hl8,⟨_,_,rfl⟩,⟨rfl,Or.inl ⟨rfl,rfl⟩⟩,rfl,hRES,Below.refl _ _⟩
  case round =>
    obtain ⟨l',out,⟨off,cap,rfl⟩,hv,hl8',⟨ya,yc,rfl⟩,hown,hrt,hacc,hb⟩:=hrel;have hbs:=hb.size;have hout:=Op.right_len hrt;have HOW:=hide hown;have HVV:=hide hv;clear HV hown hv;rcases l' with _ | ⟨k,l'⟩
    · rw [Op.acc_nil,if_pos hrt] at hacc
      go_wp2
      go_ret2
      exact Or.inr ⟨out,_,_,hacc.symm,rfl,uh HOW,hb⟩
    · have d1:(0:Int)<(l'.length:Int)+1:=by omega
      have HRT:=hide hrt;have HAC:=hide hacc;clear hrt hacc;go_wp2_with fail
      refine (optionLayout wr).mono ?_;rintro e w1 ⟨rfl,hP,hb1⟩;have hv1:=(uh HVV).same (hb1.block B (by omega));have hb01:Below w.heap.size w w1:=hb.trans (hb1.mono hbs);have hs1:=hb1.size;rcases l' with _ | ⟨n,r⟩
      · have hres:RES=none:=by rw [← uh HAC,Op.acc_one]
        go_wp2_with fail
        refine (opt_bad1 w1 _ B _ k hP (by omega) hv1).mono ?_;rintro e w2 ⟨rfl,hb2⟩;have hb02:=hb01.trans (hb2.mono hb01.size);unfold zero8 wrong;clear HAC HOW HVV hv1 hP HRT;go_wp2
        go_ret2
        exact Or.inl ⟨hres,rfl,hb02.alloc hb02.size _⟩
      · by_cases hbd:n.toNat<2∨22<n.toNat∨r.length+2<n.toNat
        · have hres:RES=none:=by rw [← uh HAC,acc_none out hbd]
          go_wp2_with fail
          refine (opt_bad2 w1 _ B _ k n r hP (by omega) hv1 (bad2 hbd)).mono ?_;rintro e w2 ⟨rfl,hb2⟩;have hb02:=hb01.trans (hb2.mono hb01.size);unfold zero8 wrong;clear HAC HOW HVV hv1 hP HRT hbd;go_wp2
          go_ret2
          exact Or.inl ⟨hres,rfl,hb02.alloc hb02.size _⟩
        · have hac:=uh HAC
          rw [Op.acc_step out (by omega)] at hac;have hlen2:(r.drop (n.toNat - 2)).length≤r.length:=by rw [List.length_drop];omega
          have HAC2:=hide hac;have hr8:r.length+2≤8000:=by simpa using hl8'
          clear HAC hac;go_wp2_with fail
          refine (opt_good w1 _ B _ k n r hP (by omega) hv1 (good2 hbd)).mono ?_;rintro e w2 ⟨off2,cap2,sa,sc,x,rfl,hR2,ho2,hb2⟩;generalize txt (r.take (n.toNat - 2))=T at *;generalize r.drop (n.toNat - 2)=L2 at *;have hs2:=hb2.size;obtain ⟨g,rfl,hg1,hg2,hgc⟩:=row_one1 ho2 (by decide);have g0:=hgc 0 _ rfl;have hb02:Below wr.heap.size wr w2:=hb1.trans (hb2.mono hs1);have hownB:∀ q,(Value.slice ya out.length yc).ownBlock=some q→w.heap.size≤q∧q<wr.heap.size:=fun q hq=>World.ownsRow.lt (uh HOW) q hq
          have HO2:Hid (w2.ownsRow w.heap.size 116 2 (.slice ya out.length yc) out.length (ocells out)):=hide (own_same (uh HOW) fun q _ hq=>hb02.block q hq);have HG:=hide g0;have HR2:=hide hR2;have hbw2:Below w.heap.size w w2:=hb.trans (hb02.mono hbs);clear HOW HVV hv1 hP hgc ho2 hbd g0 hR2 hb1 hb2;have n1:(Value.slice ya out.length yc).ownBlock≠some w2.heap.size:=fun e=>by have:=hownB _ e;omega
          have n2:(Value.slice ya out.length yc).ownBlock≠some g:=fun e=>by have:=hownB _ e;omega
          have n3:(Value.slice ya out.length yc).ownBlock≠some B:=fun e=>by have:=hownB _ e;omega
          go_wp2_with fail
          refine gen_world (fun q=>q.heap[w2.heap.size]?=some (.cells #[.slice (some ⟨wr.heap.size+1,0,none⟩) 3 3,.int .i64 2,.int .i64 20,.int .i64 3,.slice (some ⟨B,off2,none⟩) L2.length cap2,.slice (some ⟨g,0,none⟩) 1 sc,.int .i64 x,.string T] 213)∧q.cell? ⟨g,0,none⟩=some (.int .i64 k.toNat)∧q.ownsRow w.heap.size 116 2 (.slice ya out.length yc) out.length (ocells out)∧Rest q B (.slice (some ⟨B,off2,none⟩) L2.length cap2) L2∧Below w.heap.size w q∧q.heap.size=w2.heap.size+1)
            ⟨heap_alloc_new w2 _,(((Below.refl w2.heap.size w2).alloc (Nat.le_refl _) _).cell (p:=⟨g,0,none⟩) hg2).trans (uh HG),(uh HO2).alloc _,(uh HR2).same (Below.heap_alloc _ _ _ (by omega)),hbw2.alloc hbw2.size _,by simp⟩ ?_
          rintro q ⟨hr,g0,hoq,hrq,hbq,hqs⟩;obtain ⟨_,_,_,_,r4,r5,_,r7,_⟩:=rg8 hr;have HR:=hide hr;have HOQ:=hide hoq;have HRQ:=hide hrq;have lg:g<q.heap.size:=by omega
          have lr:w2.heap.size<q.heap.size:=by omega
          have lB:B<q.heap.size:=by omega
          have lw:w.heap.size≤q.heap.size:=by omega
          clear hr hoq hrq HG HO2 HR2 hbw2 hb02 hownB hb01 hqs
          go_region_held3 (fun z=>z.cell? ⟨w2.heap.size,5,none⟩=some (.slice (some ⟨g,0,none⟩) 1 sc)∧z.cell? ⟨g,0,none⟩=some (.int .i64 k.toNat)∧z.cell? ⟨w2.heap.size,7,none⟩=some (.string T))
            (first
              | go_keep
              | (go_split_ands
                 refine ⟨?_,?_,?_⟩
                 · (rw [hgrow.cell_far _ (by simp;omega) (Ne.symm n1)];assumption)
                 · (rw [hgrow.cell_far _ (by simp;omega) (Ne.symm n2)];assumption)
                 · (rw [hgrow.cell_far _ (by simp;omega) (Ne.symm n1)];assumption)))
            ((refine step_append_lies _ (by rfl) _ _ _ (by rfl) w.heap.size 116 i0 _ 2 24 underlying25 hi0 hz0 hz1 hz2 rfl (by omega) (.slice ya out.length yc) out.length (ocells out) (by rfl) (((uh HOQ).alloc _).drew)
                ⟨q.heap.size,0,none⟩ 1 1 [.int .i64 k.toNat,.string T] (by rfl) (by rfl) (World.news_of_block (cs:=#[.int .i64 k.toNat,.string T]) (t:=116) (fr:=(0,0)) (heap_alloc_new q _)) (by simp [Value.oneCell'])
                (by omega) (by unfold maxLen;omega) (by omega) (by simp;omega) (q.heap.size+1) (by simp) ?_;intro gg cap3 w3 hown3 hgrow hat hlt))
          have hr3:=(hgrow.block w2.heap.size (by simp;omega) (Ne.symm n1)).trans ((Below.heap_alloc q _ _ lr).trans (uh HR));have hB3:w3.heap[B]?=q.heap[B]?:=(hgrow.block B (by simp;omega) (Ne.symm n3)).trans (Below.heap_alloc q _ _ lB);have hv3:=(uh HRQ).same hB3;have hbw3:Below w.heap.size w w3:=((hbq.alloc lw _).drew).grown hgrow (by simp;omega) (fun p hp=>(World.ownsRow.lt (uh HOQ) p hp).1);have hoc:ocells out ++ [.int .i64 k.toNat,.string T]=ocells (out ++ [⟨(k.toNat:Int),T⟩]):=by rw [ocells_append];rfl
          rw [hoc] at hown3;have hol:out.length+1=(out ++ [(⟨(k.toNat:Int),T⟩:Op.Opt)]).length:=by simp
          have hown3':w3.ownsRow w.heap.size 116 2 (.slice (some ⟨gg,0,none⟩) (out ++ [(⟨(k.toNat:Int),T⟩:Op.Opt)]).length cap3) (out ++ [(⟨(k.toNat:Int),T⟩:Op.Opt)]).length (ocells (out ++ [⟨(k.toNat:Int),T⟩])):=by rw [← hol];exact hown3
          have C:=hide (implRightAll _ _ w3 (by rw [← hol];unfold maxLen;omega) (HoldsO.own hown3'));have hl20:out.length+1≤21:=by omega
          generalize hNO:out ++ [(⟨(k.toNat:Int),T⟩:Op.Opt)]=NO at *;rw [← hol] at C;have HO3:=hide hown3';have HV3:=hide hv3;have HR3:=hide hr3;have HOL:=hide hol;have hl3:w2.heap.size<w3.heap.size:=(ge.1 hr3).1;have hB3l:B<w3.heap.size:=by omega
          clear hown3 hown3' hgrow hat hr3 hB3 hv3 hoc HRQ HOQ HR r4 r5 r7 g0 n1 n2 n3 HRT hol;cases hrt2:Op.right NO
          · have hres:RES=none:=by rw [← uh HAC2,Op.acc_wrong L2 hrt2]
            rw [hrt2] at C;clear hrt2 HAC2;go_wp2_with (first | (go_at_call 112;refine (uh C).mono ?_;rintro e w4 ⟨rfl,hb4⟩))
            go_ret2
            exact Or.inl ⟨hres,rfl,hbw3.trans (hb4.mono hbw3.size)⟩
          · rw [hrt2] at C
            have HRT:=hide hrt2;clear hrt2;go_wp2_with (first | (go_at_call 112;refine (uh C).mono ?_;rintro e w4 ⟨rfl,hb4⟩;obtain ⟨_,_,_,_,r4,_,_,_,_⟩:=rg8 ((hb4.block w2.heap.size hl3).trans (uh HR3))))
            go_roundw
            case rel =>
              refine ⟨L2,NO,⟨_,_,rfl⟩,(uh HV3).same (hb4.block B hB3l),by omega,⟨some ⟨gg,0,none⟩,cap3,by rw [uh HOL]⟩,?_,uh HRT,uh HAC2,hbw3.trans (hb4.mono hbw3.size)⟩;rw [uh HOL];exact own_same (uh HO3) fun p _ hp=>hb4.block p hp
            case measure =>
              simp [slen];omega
def oread (t:ByteArray):List Op.Opt × Int :=
 if 8000<t.size then ([],2) else
 match Op.acc [] t.data.toList with
 | none=>([],3)
 | some L=>(L,0)
theorem oread_long {t:ByteArray} (h:8000<t.size):oread t=([],2):=by unfold oread;rw [if_pos h]
theorem oread_none {t:ByteArray} (h:¬ 8000<t.size) (ha:Op.acc [] t.data.toList=none):oread t=([],3):=by unfold oread;rw [if_neg h,ha]
theorem oread_some {t:ByteArray} {L:List Op.Opt} (h:¬ 8000<t.size) (ha:Op.acc [] t.data.toList=some L):oread t=(L,0):=by unfold oread;rw [if_neg h,ha]
theorem oread_right (t:ByteArray):Op.right (oread t).1=true:=by
 by_cases h:8000<t.size
 ·rw [oread_long h];rfl
 ·cases ha:Op.acc [] t.data.toList with
  | none=>rw [oread_none h ha];rfl
  | some L=>rw [oread_some h ha];exact Op.acc_right ha
def OrOut (w w':World) (o:List Op.Opt × Int) (e:Ending):Prop :=
 ∃ ad cp,e=.returned (.agg #[.slice ad o.1.length cp,.int .i64 o.2])∧w'.ownsRow w.heap.size 116 2 (.slice ad o.1.length cp) o.1.length (ocells o.1)∧Below w.heap.size w w'
theorem own_nil0 (w:World) (n:Nat):w.ownsRow n 116 2 (.slice none 0 0) 0 (ocells []):=⟨rfl,Or.inl ⟨rfl,rfl⟩⟩
theorem infoOo:(prog.info? 172).map (·.size)=some 2:=by kernel_rfl
theorem load2oo {W:World} {E:Nat} {x0 x1:Value} (h:W.heap[E]?=some (.cells #[x0,x1] 172)):(loadVar 172 ⟨E,0,none⟩).run prog W=.ok (.agg #[x0,x1]) W :=
 run_loadVar_row (P:=prog) _ _ 172 172 #[x0,x1] (0,0) _ h underlying172 rfl infoOo
theorem set2_oo {W:World} {E:Nat} {z0 z1:Value} {T:TypeId} (h:W.heap[E]?=some (.cells #[z0,z1] T)) (x0 x1:Value) :
  ((W.setCell ⟨E,0,none⟩ x0).setCell ⟨E,1,none⟩ x1).heap[E]?=some (.cells #[x0,x1] T) :=
 heap_setCell_same _ _ 1 _ _ x1 (heap_setCell_same _ _ 0 _ _ x0 h)
theorem row2oo {w:World} {B:Nat} {x0 x1:Value} {T:TypeId} (h:w.heap[B]?=some (.cells #[x0,x1] T)) :
  w.cell? ⟨B,0,none⟩=some x0∧w.cell? ⟨B,1,none⟩=some x1∧w.frozen? ⟨B,0,none⟩=false∧w.frozen? ⟨B,1,none⟩=false :=
 ⟨by rw [cr h];rfl,by rw [cr h];rfl,frz h _,frz h _⟩
theorem own_two {W:World} {base base' E:Nat} {v:Value} {n:Nat} {xs:List Value} (h:W.ownsRow base 116 2 v n xs) (hE:E<base) (hb:base'≤base) (x0 x1:Value) :
  ((W.setCell ⟨E,0,none⟩ x0).setCell ⟨E,1,none⟩ x1).ownsRow base' 116 2 v n xs:=by
 have h2:((W.setCell ⟨E,0,none⟩ x0).setCell ⟨E,1,none⟩ x1).ownsRow base 116 2 v n xs:=own_same h fun g hg _=>by
  have hne:g≠E:=by omega
  rw [Below.heap_setCell _ ⟨E,1,none⟩ _ g hne,Below.heap_setCell _ ⟨E,0,none⟩ _ g hne]
 exact ⟨h2.1,h2.2.imp id fun ⟨g,cap,cur,h1,q,h3⟩=>⟨g,cap,cur,h1,Nat.le_trans hb q,h3⟩⟩
theorem implOptsRead (t:ByteArray) (w:World) (ht:t.size≤maxLen) (hE:Et w) :
  Calls prog 128 #[.string t] w fun e w'=>OrOut w w' (oread t) e:=by
 have hlt0:=hE.lt;unfold maxLen at ht;by_cases h8:8000<t.size
 ·have d0:(8000:Int)<(t.size:Int):=by omega
  rw [oread_long h8];go_enter func128,ntmps128
  go_wp2
  refine bodyPost_ret (v:=.agg #[.slice none 0 0,.int .i64 2]) (by simp [results,results128,go_sem]) rfl ⟨none,0,rfl,own_nil0 _ _,(Below.refl _ _).alloc (Nat.le_refl _) _⟩
 ·have d0:¬ ((8000:Int)<(t.size:Int)):=by omega
  have hl8:t.data.toList.length≤8000:=by rw [len_dat];omega
  obtain ⟨cap,W1,hcv,hcap,hl1,hb1,hlt1⟩:=bytes_of t (w.alloc (.cells #[.slice none 0 0,.int .i64 0] 172));have hW:(w.alloc (.cells #[.slice none 0 0,.int .i64 0] 172)).heap.size=w.heap.size+1:=by simp
  rw [hW] at hcv hb1 hlt1 hl1;have C1:=hide (optionsOf W1 (w.heap.size+1) _ t.data.toList hl8 hlt1 ⟨0,cap,rfl,hcap,hl1⟩);rw [len_dat] at C1 hcv;have hO1:W1.heap[w.heap.size]?=some (.cells #[.slice none 0 0,.int .i64 0] 172):=(hb1.block w.heap.size (Nat.lt_succ_self _)).trans (heap_alloc_new w _);have hB1:Below w.heap.size w W1:=((Below.refl _ _).alloc (Nat.le_refl _) _).trans (hb1.mono (Nat.le_succ _));have HX:=hide (And.intro hO1 hB1);have HN:=hide (oread_none h8);have HS:=hide fun L=>oread_some (L:=L) h8
  have hl1':w.heap.size+1≤W1.heap.size:=Nat.le_of_lt hlt1;clear hl1 hb1 hO1 hB1 hcap hW hl8;go_enter func128,ntmps128
  go_wp2_with fail
  refine (uh C1).mono ?_;rintro e W2 h;rcases h with ⟨hres,rfl,hb2⟩ | ⟨L,ad,cp,hres,rfl,ho,hb2⟩
  ·have hO2:=(hb2.block w.heap.size (by omega)).trans (uh HX).1;have hB2:Below w.heap.size w W2:=(uh HX).2.trans (hb2.mono (uh HX).2.size);have HR:Hid (oread t=([],3)):=hide (uh HN hres);have hlt2:w.heap.size<W2.heap.size:=(ge.1 hO2).1;have C2:=hide (code_wrong 3 W2 (hE.below hB2 hlt0));have HO2:=hide (And.intro hO2 hB2);clear HX C1 hcv hb2 HN HS hres hO2 hB2 hE;go_wp2_with fail
   refine (uh C2).mono ?_;rintro e w3 ⟨rfl,hb3⟩;have hO3:=(hb3.block w.heap.size hlt2).trans (uh HO2).1;have hB3:=(uh HO2).2.trans (hb3.mono (uh HO2).2.size);obtain ⟨c0,c1,f0,f1⟩:=row2oo hO3;have FIN:=hide fun x0 x1=>load2oo (set2_oo hO3 x0 x1)
   clear C2 HO2 hO3 hb3;go_wp2
   refine bodyPost_ret (v:=.agg #[.slice none 0 0,.int .i64 3]) (by simp [results,results128,asAddr,uh FIN]) rfl ?_;rw [uh HR];exact ⟨none,0,rfl,own_nil0 _ _,(hB3.setCell (p:=⟨w.heap.size,0,none⟩) (Nat.le_refl _) _).setCell (p:=⟨w.heap.size,1,none⟩) (Nat.le_refl _) _⟩
  ·have hO2:=(hb2.block w.heap.size (by omega)).trans (uh HX).1;have hB2:Below w.heap.size w W2:=(uh HX).2.trans (hb2.mono (uh HX).2.size);have HR:Hid (oread t=(L,0)):=hide (uh HS L hres);have hlt2:w.heap.size<W2.heap.size:=(ge.1 hO2).1;have C2:=hide (code_nil W2);have HO2:=hide (And.intro hO2 hB2);have HOW:=hide ho;clear HX C1 hcv HN HS hres hO2 hB2 hE ho hb2;go_wp2_with fail
   refine (uh C2).mono ?_;rintro e w3 ⟨rfl,hb3⟩;have hO3:=(hb3.block w.heap.size hlt2).trans (uh HO2).1;have hB3:=(uh HO2).2.trans (hb3.mono (uh HO2).2.size);have HOW3:=hide (own_same (uh HOW) fun p _ hp=>hb3.block p hp);obtain ⟨c0,c1,f0,f1⟩:=row2oo hO3;have FIN:=hide fun x0 x1=>load2oo (set2_oo hO3 x0 x1)
   clear C2 HO2 hO3 hb3 HOW;go_wp2
   refine bodyPost_ret (v:=.agg #[.slice ad L.length cp,.int .i64 0]) (by simp [results,results128,asAddr,uh FIN]) rfl ?_;rw [uh HR];exact ⟨ad,cp,rfl,own_two (uh HOW3) (by omega) (by omega) _ _,(hB3.setCell (p:=⟨w.heap.size,0,none⟩) (Nat.le_refl _) _).setCell (p:=⟨w.heap.size,1,none⟩) (Nat.le_refl _) _⟩
structure Cf where
 m:Nat
 a:Nat
 g:Nat
 p:Bool
 c:Bool
 d:Bool
abbrev cfC (x:Cf):Array Value:=#[.int .i64 x.m,.int .i64 x.a,.int .i64 x.g,.bool x.p,.bool x.c,.bool x.d]
def okC (x:Cf):Bool:=cfgOk x.m x.a x.g
def lessK (k:Int) (x:Cf) (n:Nat):Cf :=
 if k=1 then { x with m:=n } else if k=2 then { x with a:=n } else if k=5 then { x with g:=n } else if k=9 then { x with d:=x.d && ((n:Int) != 2) } else x
def woK (k:Int) (x:Cf):Cf :=
 if k=1 then { x with m:=300 } else if k=2 then { x with a:=4294967295 } else if k=5 then { x with g:=0 } else if k=7 then { x with p:=false } else if k=8 then { x with c:=false } else if k=9 then { x with d:=false } else x
def rightOrF (y x:Cf):Cf:=if okC y=true then y else x
def lessOne (x:Cf) (o:Op.Opt):Cf:=if sizeK o.kind=some o.data.size then rightOrF (lessK o.kind x (numOf o.data.data.toList)) x else x
def lessF (x:Cf) (F:List Op.Opt):Cf:=F.foldl lessOne x
def woF (x:Cf) (F:List Op.Opt):Cf:=F.foldl (fun x o=>woK o.kind x) x
theorem lessF_snoc (x:Cf) (F:List Op.Opt) (i:Nat) (hi:i<F.length):lessF x (F.take (i+1))=lessOne (lessF x (F.take i)) F[i]:=by
 unfold lessF;rw [List.take_succ_eq_append_getElem hi,List.foldl_append];rfl
theorem woF_snoc (x:Cf) (F:List Op.Opt) (i:Nat) (hi:i<F.length):woF x (F.take (i+1))=woK F[i].kind (woF x (F.take i)):=by
 unfold woF;rw [List.take_succ_eq_append_getElem hi,List.foldl_append];rfl
theorem less1 (x:Cf) (n:Nat) (w:World):Calls prog 166 #[.agg (cfC x),.int .i64 n] w fun e w'=>e=.returned (.agg (cfC (lessK 1 x n)))∧Below w.heap.size w w':=by
 obtain ⟨m,a,g,p,c,d⟩:=x;show Calls prog 166 #[.agg #[.int .i64 m,.int .i64 a,.int .i64 g,.bool p,.bool c,.bool d],.int .i64 n] w fun e w'=>e=.returned (.agg #[.int .i64 n,.int .i64 a,.int .i64 g,.bool p,.bool c,.bool d])∧Below w.heap.size w w'
 go_enter func166,ntmps166
 go_wp2
 exact bodyPost_ret (v:=.agg #[.int .i64 n,.int .i64 a,.int .i64 g,.bool p,.bool c,.bool d]) (by simp [results,results166,go_sem]) rfl ⟨rfl,((Below.refl _ _).alloc (Nat.le_refl _) _).alloc (by simp) _⟩
theorem less2 (x:Cf) (n:Nat) (w:World):Calls prog 171 #[.agg (cfC x),.int .i64 n] w fun e w'=>e=.returned (.agg (cfC (lessK 2 x n)))∧Below w.heap.size w w':=by
 obtain ⟨m,a,g,p,c,d⟩:=x;show Calls prog 171 #[.agg #[.int .i64 m,.int .i64 a,.int .i64 g,.bool p,.bool c,.bool d],.int .i64 n] w fun e w'=>e=.returned (.agg #[.int .i64 m,.int .i64 n,.int .i64 g,.bool p,.bool c,.bool d])∧Below w.heap.size w w'
 go_enter func171,ntmps171
 go_wp2
 exact bodyPost_ret (v:=.agg #[.int .i64 m,.int .i64 n,.int .i64 g,.bool p,.bool c,.bool d]) (by simp [results,results171,go_sem]) rfl ⟨rfl,((Below.refl _ _).alloc (Nat.le_refl _) _).alloc (by simp) _⟩
theorem less5 (x:Cf) (n:Nat) (w:World):Calls prog 177 #[.agg (cfC x),.int .i64 n] w fun e w'=>e=.returned (.agg (cfC (lessK 5 x n)))∧Below w.heap.size w w':=by
 obtain ⟨m,a,g,p,c,d⟩:=x;show Calls prog 177 #[.agg #[.int .i64 m,.int .i64 a,.int .i64 g,.bool p,.bool c,.bool d],.int .i64 n] w fun e w'=>e=.returned (.agg #[.int .i64 m,.int .i64 a,.int .i64 n,.bool p,.bool c,.bool d])∧Below w.heap.size w w'
 go_enter func177,ntmps177
 go_wp2
 exact bodyPost_ret (v:=.agg #[.int .i64 m,.int .i64 a,.int .i64 n,.bool p,.bool c,.bool d]) (by simp [results,results177,go_sem]) rfl ⟨rfl,((Below.refl _ _).alloc (Nat.le_refl _) _).alloc (by simp) _⟩
theorem less7 (x:Cf) (n:Nat) (w:World):Calls prog 182 #[.agg (cfC x),.int .i64 n] w fun e w'=>e=.returned (.agg (cfC (lessK 7 x n)))∧Below w.heap.size w w':=by
 obtain ⟨m,a,g,p,c,d⟩:=x;show Calls prog 182 #[.agg #[.int .i64 m,.int .i64 a,.int .i64 g,.bool p,.bool c,.bool d],.int .i64 n] w fun e w'=>e=.returned (.agg #[.int .i64 m,.int .i64 a,.int .i64 g,.bool p,.bool c,.bool d])∧Below w.heap.size w w'
 go_enter func182,ntmps182
 go_wp2
 exact bodyPost_ret (v:=.agg #[.int .i64 m,.int .i64 a,.int .i64 g,.bool p,.bool c,.bool d]) (by simp [results,results182,go_sem]) rfl ⟨rfl,((Below.refl _ _).alloc (Nat.le_refl _) _).alloc (by simp) _⟩
theorem less8 (x:Cf) (n:Nat) (w:World):Calls prog 187 #[.agg (cfC x),.int .i64 n] w fun e w'=>e=.returned (.agg (cfC (lessK 8 x n)))∧Below w.heap.size w w':=by
 obtain ⟨m,a,g,p,c,d⟩:=x;show Calls prog 187 #[.agg #[.int .i64 m,.int .i64 a,.int .i64 g,.bool p,.bool c,.bool d],.int .i64 n] w fun e w'=>e=.returned (.agg #[.int .i64 m,.int .i64 a,.int .i64 g,.bool p,.bool c,.bool d])∧Below w.heap.size w w'
 go_enter func187,ntmps187
 go_wp2
 exact bodyPost_ret (v:=.agg #[.int .i64 m,.int .i64 a,.int .i64 g,.bool p,.bool c,.bool d]) (by simp [results,results187,go_sem]) rfl ⟨rfl,((Below.refl _ _).alloc (Nat.le_refl _) _).alloc (by simp) _⟩
theorem less9 (x:Cf) (n:Nat) (w:World):Calls prog 192 #[.agg (cfC x),.int .i64 n] w fun e w'=>e=.returned (.agg (cfC (lessK 9 x n)))∧Below w.heap.size w w':=by
 obtain ⟨m,a,g,p,c,d⟩:=x;cases d
 ·show Calls prog 192 #[.agg #[.int .i64 m,.int .i64 a,.int .i64 g,.bool p,.bool c,.bool false],.int .i64 n] w fun e w'=>e=.returned (.agg #[.int .i64 m,.int .i64 a,.int .i64 g,.bool p,.bool c,.bool false])∧Below w.heap.size w w'
  go_enter func192,ntmps192
  go_wp2
  exact bodyPost_ret (v:=.agg #[.int .i64 m,.int .i64 a,.int .i64 g,.bool p,.bool c,.bool false]) (by simp [results,results192,go_sem]) rfl ⟨rfl,((Below.refl _ _).alloc (Nat.le_refl _) _).alloc (by simp) _⟩
 ·show Calls prog 192 #[.agg #[.int .i64 m,.int .i64 a,.int .i64 g,.bool p,.bool c,.bool true],.int .i64 n] w fun e w'=>e=.returned (.agg #[.int .i64 m,.int .i64 a,.int .i64 g,.bool p,.bool c,.bool ((n:Int) != 2)])∧Below w.heap.size w w'
  go_enter func192,ntmps192
  go_wp2
  exact bodyPost_ret (v:=.agg #[.int .i64 m,.int .i64 a,.int .i64 g,.bool p,.bool c,.bool ((n:Int) != 2)]) (by simp [results,results192,go_sem]) rfl ⟨rfl,((Below.refl _ _).alloc (Nat.le_refl _) _).alloc (by simp) _⟩
theorem wo1 (x:Cf) (w:World):Calls prog 167 #[.agg (cfC x)] w fun e w'=>e=.returned (.agg (cfC (woK 1 x)))∧Below w.heap.size w w':=by
 obtain ⟨m,a,g,p,c,d⟩:=x;show Calls prog 167 #[.agg #[.int .i64 m,.int .i64 a,.int .i64 g,.bool p,.bool c,.bool d]] w fun e w'=>e=.returned (.agg #[.int .i64 300,.int .i64 a,.int .i64 g,.bool p,.bool c,.bool d])∧Below w.heap.size w w'
 go_enter func167,ntmps167
 go_wp2
 exact bodyPost_ret (v:=.agg #[.int .i64 300,.int .i64 a,.int .i64 g,.bool p,.bool c,.bool d]) (by simp [results,results167,go_sem]) rfl ⟨rfl,((Below.refl _ _).alloc (Nat.le_refl _) _).alloc (by simp) _⟩
theorem wo2 (x:Cf) (w:World):Calls prog 172 #[.agg (cfC x)] w fun e w'=>e=.returned (.agg (cfC (woK 2 x)))∧Below w.heap.size w w':=by
 obtain ⟨m,a,g,p,c,d⟩:=x;show Calls prog 172 #[.agg #[.int .i64 m,.int .i64 a,.int .i64 g,.bool p,.bool c,.bool d]] w fun e w'=>e=.returned (.agg #[.int .i64 m,.int .i64 4294967295,.int .i64 g,.bool p,.bool c,.bool d])∧Below w.heap.size w w'
 go_enter func172,ntmps172
 go_wp2
 exact bodyPost_ret (v:=.agg #[.int .i64 m,.int .i64 4294967295,.int .i64 g,.bool p,.bool c,.bool d]) (by simp [results,results172,go_sem]) rfl ⟨rfl,((Below.refl _ _).alloc (Nat.le_refl _) _).alloc (by simp) _⟩
theorem wo5 (x:Cf) (w:World):Calls prog 178 #[.agg (cfC x)] w fun e w'=>e=.returned (.agg (cfC (woK 5 x)))∧Below w.heap.size w w':=by
 obtain ⟨m,a,g,p,c,d⟩:=x;show Calls prog 178 #[.agg #[.int .i64 m,.int .i64 a,.int .i64 g,.bool p,.bool c,.bool d]] w fun e w'=>e=.returned (.agg #[.int .i64 m,.int .i64 a,.int .i64 0,.bool p,.bool c,.bool d])∧Below w.heap.size w w'
 go_enter func178,ntmps178
 go_wp2
 exact bodyPost_ret (v:=.agg #[.int .i64 m,.int .i64 a,.int .i64 0,.bool p,.bool c,.bool d]) (by simp [results,results178,go_sem]) rfl ⟨rfl,((Below.refl _ _).alloc (Nat.le_refl _) _).alloc (by simp) _⟩
theorem wo7 (x:Cf) (w:World):Calls prog 183 #[.agg (cfC x)] w fun e w'=>e=.returned (.agg (cfC (woK 7 x)))∧Below w.heap.size w w':=by
 obtain ⟨m,a,g,p,c,d⟩:=x;show Calls prog 183 #[.agg #[.int .i64 m,.int .i64 a,.int .i64 g,.bool p,.bool c,.bool d]] w fun e w'=>e=.returned (.agg #[.int .i64 m,.int .i64 a,.int .i64 g,.bool false,.bool c,.bool d])∧Below w.heap.size w w'
 go_enter func183,ntmps183
 go_wp2
 exact bodyPost_ret (v:=.agg #[.int .i64 m,.int .i64 a,.int .i64 g,.bool false,.bool c,.bool d]) (by simp [results,results183,go_sem]) rfl ⟨rfl,((Below.refl _ _).alloc (Nat.le_refl _) _).alloc (by simp) _⟩
theorem wo8 (x:Cf) (w:World):Calls prog 188 #[.agg (cfC x)] w fun e w'=>e=.returned (.agg (cfC (woK 8 x)))∧Below w.heap.size w w':=by
 obtain ⟨m,a,g,p,c,d⟩:=x;show Calls prog 188 #[.agg #[.int .i64 m,.int .i64 a,.int .i64 g,.bool p,.bool c,.bool d]] w fun e w'=>e=.returned (.agg #[.int .i64 m,.int .i64 a,.int .i64 g,.bool p,.bool false,.bool d])∧Below w.heap.size w w'
 go_enter func188,ntmps188
 go_wp2
 exact bodyPost_ret (v:=.agg #[.int .i64 m,.int .i64 a,.int .i64 g,.bool p,.bool false,.bool d]) (by simp [results,results188,go_sem]) rfl ⟨rfl,((Below.refl _ _).alloc (Nat.le_refl _) _).alloc (by simp) _⟩
theorem wo9 (x:Cf) (w:World):Calls prog 193 #[.agg (cfC x)] w fun e w'=>e=.returned (.agg (cfC (woK 9 x)))∧Below w.heap.size w w':=by
 obtain ⟨m,a,g,p,c,d⟩:=x;show Calls prog 193 #[.agg #[.int .i64 m,.int .i64 a,.int .i64 g,.bool p,.bool c,.bool d]] w fun e w'=>e=.returned (.agg #[.int .i64 m,.int .i64 a,.int .i64 g,.bool p,.bool c,.bool false])∧Below w.heap.size w w'
 go_enter func193,ntmps193
 go_wp2
 exact bodyPost_ret (v:=.agg #[.int .i64 m,.int .i64 a,.int .i64 g,.bool p,.bool c,.bool false]) (by simp [results,results193,go_sem]) rfl ⟨rfl,((Below.refl _ _).alloc (Nat.le_refl _) _).alloc (by simp) _⟩
structure CfR (k:Int) (s f f2 f3 f4 f5 j:Nat):Prop where
 fd:Instr.findNow (.int .i64) (.int .i64 k) rules.toList 0=some (some (j,ruleV s f f2 f3 f4 f5))
 cf3:∀ args W,(callFunc f3 args).run prog W=.ok (.enter f3 args) W
 cf4:∀ args W,(callFunc f4 args).run prog W=.ok (.enter f4 args) W
 ls:∀ (x:Cf) (n:Nat) v,Calls prog f3 #[.agg (cfC x),.int .i64 n] v fun e w'=>e=.returned (.agg (cfC (lessK k x n)))∧Below v.heap.size v w'
 wo:∀ (x:Cf) v,Calls prog f4 #[.agg (cfC x)] v fun e w'=>e=.returned (.agg (cfC (woK k x)))∧Below v.heap.size v w'
theorem cf_row (k:Int):(∃ s f f2 f3 f4 f5 j,sizeK k=some s∧CfR k s f f2 f3 f4 f5 j)∨(sizeK k=none∧(∀ x,woK k x=x)∧Instr.findNow (.int .i64) (.int .i64 k) rules.toList 0=some none):=by
 by_cases h1:k=1
 ·subst h1;exact Or.inl ⟨2,_,_,_,_,_,_,rfl,⟨rfl,cf_of (by kernel_rfl),cf_of (by kernel_rfl),fun x n v=>less1 x n v,fun x v=>wo1 x v⟩⟩
 by_cases h2:k=2
 ·subst h2;exact Or.inl ⟨4,_,_,_,_,_,_,rfl,⟨rfl,cf_of (by kernel_rfl),cf_of (by kernel_rfl),fun x n v=>less2 x n v,fun x v=>wo2 x v⟩⟩
 by_cases h5:k=5
 ·subst h5;exact Or.inl ⟨4,_,_,_,_,_,_,rfl,⟨rfl,cf_of (by kernel_rfl),cf_of (by kernel_rfl),fun x n v=>less5 x n v,fun x v=>wo5 x v⟩⟩
 by_cases h7:k=7
 ·subst h7;exact Or.inl ⟨0,_,_,_,_,_,_,rfl,⟨rfl,cf_of (by kernel_rfl),cf_of (by kernel_rfl),fun x n v=>less7 x n v,fun x v=>wo7 x v⟩⟩
 by_cases h8:k=8
 ·subst h8;exact Or.inl ⟨0,_,_,_,_,_,_,rfl,⟨rfl,cf_of (by kernel_rfl),cf_of (by kernel_rfl),fun x n v=>less8 x n v,fun x v=>wo8 x v⟩⟩
 by_cases h9:k=9
 ·subst h9;exact Or.inl ⟨1,_,_,_,_,_,_,rfl,⟨rfl,cf_of (by kernel_rfl),cf_of (by kernel_rfl),fun x n v=>less9 x n v,fun x v=>wo9 x v⟩⟩
 ·refine Or.inr ⟨by simp [sizeK,h1,h2,h5,h7,h8,h9],fun x=>by simp [woK,h1,h2,h5,h7,h8,h9],?_⟩;have e1:(k == 1)=false:=beq_eq_false_iff_ne.2 h1;have e2:(k == 2)=false:=beq_eq_false_iff_ne.2 h2;have e5:(k == 5)=false:=beq_eq_false_iff_ne.2 h5;have e7:(k == 7)=false:=beq_eq_false_iff_ne.2 h7;have e8:(k == 8)=false:=beq_eq_false_iff_ne.2 h8;have e9:(k == 9)=false:=beq_eq_false_iff_ne.2 h9;simp [Instr.findNow,rules,Instr.sameNow,e1,e2,e5,e7,e8,e9]
theorem infoC:(prog.info? 24).map (·.size)=some 6:=by kernel_rfl
theorem loadC {W:World} {E:Nat} {x0 x1 x2 x3 x4 x5:Value} (h:W.heap[E]?=some (.cells #[x0,x1,x2,x3,x4,x5] 24)):(loadVar 24 ⟨E,0,none⟩).run prog W=.ok (.agg #[x0,x1,x2,x3,x4,x5]) W :=
 run_loadVar_row (P:=prog) _ _ 24 24 #[x0,x1,x2,x3,x4,x5] (0,0) _ h underlying24 rfl infoC
theorem start3c (w:World) (a b c:Obj):(((w.alloc a).alloc b).alloc c).heap[w.heap.size]?=some a∧(((w.alloc a).alloc b).alloc c).heap[w.heap.size+1]?=some b∧(((w.alloc a).alloc b).alloc c).heap[w.heap.size+1+1]?=some c∧Below w.heap.size w (((w.alloc a).alloc b).alloc c):=by
 have s1:(w.alloc a).heap.size=w.heap.size+1:=by simp
 have s2:((w.alloc a).alloc b).heap.size=w.heap.size+1+1:=by simp
 have e2:=heap_alloc_new (w.alloc a) b;have e3:=heap_alloc_new ((w.alloc a).alloc b) c;rw [s1] at e2;rw [s2] at e3;refine ⟨?_,?_,e3,(((Below.refl _ _).alloc (Nat.le_refl _) _).alloc (by omega) _).alloc (by omega) _⟩
 ·rw [Below.heap_alloc _ _ _ (by omega),Below.heap_alloc _ _ _ (by omega)];exact heap_alloc_new w a
 ·rw [Below.heap_alloc _ _ _ (by omega)];exact e2
theorem rightOr (y x:Cf) (w:World):Calls prog 144 #[.agg (cfC y),.agg (cfC x)] w fun e w'=>e=.returned (.agg (cfC (rightOrF y x)))∧Below w.heap.size w w':=by
 unfold rightOrF okC;obtain ⟨m,a,g,p,c,d⟩:=y;obtain ⟨m',a',g',p',c',d'⟩:=x;have C:=hide fun v=>implCfg (m:Int) a g p c d v
 obtain ⟨h1,h2,h3,h4⟩:=start3c w (.cells #[.int .i64 m,.int .i64 a,.int .i64 g,.bool p,.bool c,.bool d] 24) (.cells #[.int .i64 m',.int .i64 a',.int .i64 g',.bool p',.bool c',.bool d'] 24) (.cells #[.int .i64 0,.int .i64 0,.int .i64 0,.bool false,.bool false,.bool false] 24);have H0:=hide (And.intro h1 (And.intro h2 (And.intro h3 h4)));clear h1 h2 h3 h4;dsimp only;cases hq:cfgOk (m:Int) a g
 ·rw [if_neg (by decide)];rw [hq] at C;show Calls prog 144 #[.agg #[.int .i64 m,.int .i64 a,.int .i64 g,.bool p,.bool c,.bool d],.agg #[.int .i64 m',.int .i64 a',.int .i64 g',.bool p',.bool c',.bool d']] w fun e w'=>e=.returned (.agg #[.int .i64 m',.int .i64 a',.int .i64 g',.bool p',.bool c',.bool d'])∧Below w.heap.size w w'
  go_enter func144,ntmps144
  go_wp2_with fail
  refine (uh C _).mono ?_;rintro e w1 ⟨rfl,hb1⟩;obtain ⟨h1,h2,h3,h4⟩:=uh H0;have hS1:=(hb1.block (w.heap.size+1) (by simp)).trans h2;have hR1:=(hb1.block (w.heap.size+1+1) (by simp)).trans h3;have hB1:=h4.trans (hb1.mono h4.size);obtain ⟨c0,c1,c2,c3,c4,c5⟩:=row6 hS1;obtain ⟨r0,r1,r2,r3,r4,r5⟩:=row6 hR1;have f0:=frz hR1 0;have f1:=frz hR1 1;have f2:=frz hR1 2;have f3:=frz hR1 3;have f4:=frz hR1 4;have f5:=frz hR1 5;have H1:=hide (And.intro hR1 hB1);clear hS1 hR1 hB1 hb1 h1 h2 h3 h4 H0 C;go_wp2
  exact bodyPost_ret (v:=.agg #[.int .i64 m',.int .i64 a',.int .i64 g',.bool p',.bool c',.bool d']) (by simp [results,results144,asAddr,loadC (set6_at (uh H1).1 (.int .i64 m') (.int .i64 a') (.int .i64 g') (.bool p') (.bool c') (.bool d'))]) rfl ⟨rfl,set6_below (uh H1).2 (by omega) _ _ _ _ _ _⟩
 ·rw [if_pos rfl];rw [hq] at C;show Calls prog 144 #[.agg #[.int .i64 m,.int .i64 a,.int .i64 g,.bool p,.bool c,.bool d],.agg #[.int .i64 m',.int .i64 a',.int .i64 g',.bool p',.bool c',.bool d']] w fun e w'=>e=.returned (.agg #[.int .i64 m,.int .i64 a,.int .i64 g,.bool p,.bool c,.bool d])∧Below w.heap.size w w'
  go_enter func144,ntmps144
  go_wp2_with fail
  refine (uh C _).mono ?_;rintro e w1 ⟨rfl,hb1⟩;obtain ⟨h1,h2,h3,h4⟩:=uh H0;have hS1:=(hb1.block (w.heap.size) (by simp;omega)).trans h1;have hR1:=(hb1.block (w.heap.size+1+1) (by simp)).trans h3;have hB1:=h4.trans (hb1.mono h4.size);obtain ⟨c0,c1,c2,c3,c4,c5⟩:=row6 hS1;obtain ⟨r0,r1,r2,r3,r4,r5⟩:=row6 hR1;have f0:=frz hR1 0;have f1:=frz hR1 1;have f2:=frz hR1 2;have f3:=frz hR1 3;have f4:=frz hR1 4;have f5:=frz hR1 5;have H1:=hide (And.intro hR1 hB1);clear hS1 hR1 hB1 hb1 h1 h2 h3 h4 H0 C;go_wp2
  exact bodyPost_ret (v:=.agg #[.int .i64 m,.int .i64 a,.int .i64 g,.bool p,.bool c,.bool d]) (by simp [results,results144,asAddr,loadC (set6_at (uh H1).1 (.int .i64 m) (.int .i64 a) (.int .i64 g) (.bool p) (.bool c) (.bool d))]) rfl ⟨rfl,set6_below (uh H1).2 (by omega) _ _ _ _ _ _⟩
def ansF (e:En) (L:List Op.Opt):Int × List Op.Opt :=
 if (repF e.m1 e.a1 e.g2 e.p1 e.c1 e.d1 L).1=3∧e.fl=3 then (4,ofKs L (repF e.m1 e.a1 e.g2 e.p1 e.c1 e.d1 L).2) else repF e.m1 e.a1 e.g2 e.p1 e.c1 e.d1 L
def cxP (now:Int) (p:Op.Pk) (H:List Op.Opt) (A:Int × List Op.Opt) (vh va:Value):Cx:=⟨now,p.code,p.id,p.data,H,A.1,A.2,vh,va⟩
def cfA (e:En):Cf:=⟨e.m2.toNat,e.a2.toNat,e.g2.toNat,e.p2,e.c2,e.d2⟩
def setA (e:En) (x:Cf):En:={ e with m2:=x.m,a2:=x.a,g2:=x.g,p2:=x.p,c2:=x.c,d2:=x.d }
def evT (i:Nat):ByteArray:=evTexts.getD i ⟨#[]⟩
abbrev nilS:Value:=.slice none 0 0
def hardB (t:ByteArray):Bool:=match t.data.toList with
 | []=>false
 | b :: _=>decide (1≤b.toNat∧b.toNat≤7)
def hearP (now:Int) (p:Op.Pk) (e:En) (F1 F2:List Op.Opt):EO :=
 if p.code=1 then
  if (oread p.data).2=0 then evF (cxP now p (oread p.data).1 (ansF e (oread p.data).1) nilS nilS) ⟨e,F1,F2,[],[]⟩ (evT (if (ansF e (oread p.data).1).1=2 then 6 else 7)) else eoErr (oread p.data).2
 else if p.code=2 then
  if p.id=e.id∧p.data=txt (Op.bytes F1) then evF (cxP now p [] (0,[]) nilS nilS) ⟨e,F1,F2,[],[]⟩ (evT 8) else eoErr 8
 else if p.code=3∨p.code=4 then
  if p.id=e.id then
   if (oread p.data).2=0 then evF (cxP now p [] (0,[]) nilS nilS) ⟨setA e (if p.code=3 then lessF (cfA e) (oread p.data).1 else woF (cfA e) (oread p.data).1),F1,F2,[],[]⟩ (evT 9) else eoErr (oread p.data).2
  else eoErr 8
 else if p.code=7∧p.data.size=0 then eoErr 4
 else evF (cxP now p [] (0,[]) nilS nilS) ⟨e,F1,F2,[],[]⟩ (evT (if p.code=5 then 10 else if p.code=6 then 11 else if p.code=7 then (if hardB p.data=true then 14 else 13) else if p.code=9∨p.code=10∨p.code=11 then 15 else 12))
def hearF (e:En) (F1 F2:List Op.Opt) (p:Op.Pk) (now:Int):EO :=
 if (enOk e F1 F2 && within 0 1000000000 now)=true∧Op.pok p=true then (if e.st≤1 then eoErr 8 else hearP now p e F1 F2) else eoErr 1
theorem oread_ok {t:ByteArray} (ht:t.size≤250):opOk (oread t).1=true:=by
 have h8:¬ 8000<t.size:=by omega
 unfold opOk;rw [oread_right,Bool.true_and];cases ha:Op.acc [] t.data.toList with
 | none=>rw [oread_none h8 ha];rfl
 | some L =>
  have h1:=Op.bytes_acc ha;have h2:=oread_right t;rw [oread_some h8 ha] at h2 ⊢;unfold Op.told at h1;rw [if_pos h2] at h1;refine decide_eq_true ?_;rw [h1];exact ht
theorem repF_ok (m a g:Int) (p c d:Bool) {L:List Op.Opt} (h:opOk L=true):opOk (repF m a g p c d L).2=true:=by
 unfold repF;split
 ·exact repV_ok _ _ _ _ _ _ h _
 ·rfl
theorem ansF_ok (e:En) {L:List Op.Opt} (h:opOk L=true):opOk (ansF e L).2=true:=by
 unfold ansF;split
 ·exact ofKs_ok h _
 ·exact repF_ok _ _ _ _ _ _ h
theorem ansF_model (e:En) (L:List Op.Opt):ansF e L=if (repF e.m1 e.a1 e.g2 e.p1 e.c1 e.d1 L).1=3∧e.fl=3 then (4,nakL L (repF e.m1 e.a1 e.g2 e.p1 e.c1 e.d1 L).2) else repF e.m1 e.a1 e.g2 e.p1 e.c1 e.d1 L:=by
 unfold ansF;split
 ·next h =>
  rw [nakL_of];have h3:=h.1;unfold repF at h3 ⊢;split
  ·next hc =>
   rw [if_pos hc] at h3;exact fl_one _ _ _ _ _ _ _ h3 _
  ·exact List.Pairwise.nil
 ·rfl
theorem Fit.came {n:Nat} {now:Int} {s:St} (h:Fit n (cx0 now) s) (p:Op.Pk) (hp:Op.pok p=true) {H:List Op.Opt} {A:Int × List Op.Opt} (hH:opOk H=true) (hA:opOk A.2=true) (vh va:Value):Fit n (cxP now p H A vh va) s:=by
 unfold Op.pok at hp;have:=of_decide_eq_true hp
 exact ⟨h.cf,h.ask,h.id,h.tr,h.fl,h.now,h.f1,h.f2,h.sn,h.tl,hH,hA,this.2.2.2.2,h.du⟩
theorem Fit.asks {n:Nat} {c:Cx} {e:En} {F1 F2:List Op.Opt} {sn:List Op.Pk} {tl:List ByteArray} (h:Fit n c ⟨e,F1,F2,sn,tl⟩) {x:Cf} (hx:okC x=true):Fit n c ⟨setA e x,F1,F2,sn,tl⟩ :=
 ⟨h.cf,hx,h.id,h.tr,h.fl,h.now,h.f1,h.f2,h.sn,h.tl,h.hd,h.ao,h.cd,h.du⟩
theorem evT_at {i:Nat} (h:i<16):evTexts[i]?=some (evT i):=by
 have hl:evTexts.length=16:=by kernel_rfl
 unfold evT;rw [List.getD_eq_getElem?_getD,List.getElem?_eq_getElem (by omega)];rfl
end Go.Proofs.YtahpjlbaagkdoaaGreatDoor
namespace Go.Proofs.YtahpjlbaagkdoaaGreatDoor
open Go.RowKit Go.Proofs.Tryz
variable {T:TypeId} {w0 w1:World} {B:Nat} {c:Cx} {s:St} {v1 v2 vs vt:Value} {q q':World}
theorem Lay.setCx (h:Lay T w0 w1 B c s v1 v2 vs vt q) (i:Nat) (v:Value) (c':Cx) (hc:(wkC c s.e v1 v2 vs vt).set i v=wkC c' s.e v1 v2 vs vt) (e1:c'.vh=c.vh) (e2:c'.hd=c.hd) (e3:c'.va=c.va) (e4:c'.ao=c.ao):Lay T w0 w1 B c' s v1 v2 vs vt (q.setCell ⟨B,i,none⟩ v):=by
 have hr:=heap_setCell_same q B i _ _ v h.row;rw [List.setIfInBounds_toArray,hc] at hr;have hk:∀ k,k≠B→(q.setCell ⟨B,i,none⟩ v).heap[k]?=q.heap[k]?:=fun k hk=>heap_setCell_other q _ _ _ hk
 refine ⟨hr,own_other h.o1 fun g hg=>hk g fun e=>own_ty h.o1 h.row h.tt.1 (e ▸ hg),own_other h.o2 fun g hg=>hk g fun e=>own_ty h.o2 h.row h.tt.1 (e ▸ hg),own_other h.os fun g hg=>hk g fun e=>own_ty h.os h.row h.tt.2.1 (e ▸ hg),own_other h.ot fun g hg=>hk g fun e=>own_ty h.ot h.row h.tt.2.2 (e ▸ hg),?_,?_,h.hB,h.tt,h.ap,?_,h.lo,h.nr.setCell i v⟩
 ·rw [e1,e2];exact own_other h.oh fun g hg=>hk g fun e=>own_ty h.oh h.row h.tt.1 (e ▸ hg)
 ·rw [e3,e4];exact hold_ty h.ha h.row h.tt.1 fun k _=>hk k
 ·rw [e1];exact h.aph
theorem Lay.cameP (h:Lay T w0 w1 B c s v1 v2 vs vt q) (x y:Int) (t:ByteArray):Lay T w0 w1 B { c with cc:=x,ci:=y,cd:=t } s v1 v2 vs vt (((q.setCell ⟨B,31,none⟩ (.int .i64 x)).setCell ⟨B,32,none⟩ (.int .i64 y)).setCell ⟨B,33,none⟩ (.string t)) :=
 ((h.setCx 31 (.int .i64 x) { c with cc:=x } rfl rfl rfl rfl rfl).setCx 32 (.int .i64 y) { c with cc:=x,ci:=y } rfl rfl rfl rfl rfl).setCx 33 (.string t) { c with cc:=x,ci:=y,cd:=t } rfl rfl rfl rfl rfl
theorem Lay.had9 (h:Lay T w0 w1 B c s v1 v2 vs vt q) (hb:Below q.heap.size q q') (v:Value) (F:List Op.Opt) (ho:q'.ownsRow q.heap.size 116 2 v F.length (ocells F)):Lay T w0 w1 B { c with hd:=F,vh:=v } s v1 v2 vs vt (q'.setCell ⟨B,34,none⟩ v):=by
 have h':=h.step hb;have hr:=heap_setCell_same q' B 34 _ _ v h'.row;rw [List.setIfInBounds_toArray] at hr;have hk:∀ k,k≠B→(q'.setCell ⟨B,34,none⟩ v).heap[k]?=q'.heap[k]?:=fun k hk=>heap_setCell_other q' _ _ _ hk
 have hs:=h.low.size;refine ⟨hr,own_other h'.o1 fun g hg=>hk g fun e=>own_ty h'.o1 h'.row h.tt.1 (e ▸ hg),own_other h'.o2 fun g hg=>hk g fun e=>own_ty h'.o2 h'.row h.tt.1 (e ▸ hg),own_other h'.os fun g hg=>hk g fun e=>own_ty h'.os h'.row h.tt.2.1 (e ▸ hg),own_other h'.ot fun g hg=>hk g fun e=>own_ty h'.ot h'.row h.tt.2.2 (e ▸ hg),own_other (own_mono ho hs) fun g hg=>hk g fun e=>own_ty ho h'.row h.tt.1 (e ▸ hg),hold_ty h'.ha h'.row h.tt.1 fun k _=>hk k,h.hB,h.tt,h.ap,fun g hg e=>?_,h.lo,h'.nr.setCell 34 v⟩;have h1:=(ho.lt g e).1;have h2:=(h.o1.lt g hg).2;omega
theorem Lay.ans9 (h:Lay T w0 w1 B c s v1 v2 vs vt q) (x:Int) (v:Value) (F:List Op.Opt) (hv:HoldsO q v F):Lay T w0 w1 B { c with ac:=x,ao:=F,va:=v } s v1 v2 vs vt ((q.setCell ⟨B,35,none⟩ (.int .i64 x)).setCell ⟨B,36,none⟩ v):=by
 have h':=h.setCx 35 (.int .i64 x) { c with ac:=x } rfl rfl rfl rfl rfl;have hv':HoldsO (q.setCell ⟨B,35,none⟩ (.int .i64 x)) v F:=hold_ty hv h.row h.tt.1 fun k _ hk=>heap_setCell_other q _ _ _ hk
 generalize q.setCell ⟨B,35,none⟩ (.int .i64 x)=z at *;have hr:=heap_setCell_same z B 36 _ _ v h'.row;rw [List.setIfInBounds_toArray] at hr;have hk:∀ k,k≠B→(z.setCell ⟨B,36,none⟩ v).heap[k]?=z.heap[k]?:=fun k hk=>heap_setCell_other z _ _ _ hk
 exact ⟨hr,own_other h'.o1 fun g hg=>hk g fun e=>own_ty h'.o1 h'.row h.tt.1 (e ▸ hg),own_other h'.o2 fun g hg=>hk g fun e=>own_ty h'.o2 h'.row h.tt.1 (e ▸ hg),own_other h'.os fun g hg=>hk g fun e=>own_ty h'.os h'.row h.tt.2.1 (e ▸ hg),own_other h'.ot fun g hg=>hk g fun e=>own_ty h'.ot h'.row h.tt.2.2 (e ▸ hg),own_other h'.oh fun g hg=>hk g fun e=>own_ty h'.oh h'.row h.tt.1 (e ▸ hg),hold_ty hv' h'.row h.tt.1 fun k _=>hk k,h.hB,h.tt,h.ap,h.aph,h.lo,h'.nr.setCell 36 v⟩
theorem Lay.asks9 (h:Lay T w0 w1 B c s v1 v2 vs vt q) (x:Cf):Lay T w0 w1 B c { s with e:=setA s.e x } v1 v2 vs vt ((((((q.setCell ⟨B,6,none⟩ (.int .i64 x.m)).setCell ⟨B,7,none⟩ (.int .i64 x.a)).setCell ⟨B,8,none⟩ (.int .i64 x.g)).setCell ⟨B,9,none⟩ (.bool x.p)).setCell ⟨B,10,none⟩ (.bool x.c)).setCell ⟨B,11,none⟩ (.bool x.d)) :=
 (((((h.setRaw 6 (.int .i64 x.m) { s.e with m2:=x.m } rfl).setRaw 7 (.int .i64 x.a) { s.e with m2:=x.m,a2:=x.a } rfl).setRaw 8 (.int .i64 x.g) { s.e with m2:=x.m,a2:=x.a,g2:=x.g } rfl).setRaw 9 (.bool x.p) { s.e with m2:=x.m,a2:=x.a,g2:=x.g,p2:=x.p } rfl).setRaw 10 (.bool x.c) { s.e with m2:=x.m,a2:=x.a,g2:=x.g,p2:=x.p,c2:=x.c } rfl).setRaw 11 (.bool x.d) (setA s.e x) rfl
end Go.Proofs.YtahpjlbaagkdoaaGreatDoor
