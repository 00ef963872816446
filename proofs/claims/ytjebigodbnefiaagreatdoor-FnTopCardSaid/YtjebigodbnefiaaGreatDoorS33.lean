/- DkC DkE -/
import Derived.Test.YtjebigodbnefiaaGreatDoorS32
set_option maxHeartbeats 16000000
set_option maxRecDepth 100000
namespace Go.Proofs.YtjebigodbnefiaaGreatDoor
open Go.RowKit Go.Proofs.Tryz
section
variable {base:Nat} {W W':World} {D:Nat} {k:Ks} {ca:List Value}
theorem uW (h:DkM base W D k ca) (t:ByteArray) (ht:t.size≤8000) (h0:(Op.pread (bB t).data.toList).code=0) (hs:(bB t).size≤100000) :
  Calls prog 98 #[.pointer (some ⟨D,0,none⟩),.string ⟨#[104,101,97,114]⟩,.string t] W fun r q=>vB W (eL k (bB t)) r q:=by
 have CX:=aa fun W=>uV t W (by unfold maxLen;omega)
 have CH:=aa fun W' (hb:Below W.heap.size W W')=>xR (h.below hb) (bB t) hs h0
 have hbs:=h.bs;have hlt:=h.lt;clear h;generalize eL k (bB t)=oo at *;generalize bB t=u at *;go_enter func98,ntmps98
 go_upto_region 1 with fail
 refine aI (fun q=>Below W.heap.size W q∧q.heap[W.heap.size]?=some (.cells bk 121)) ⟨(zC _ _).alloc (zD _) _,zF W _⟩ ?_;rintro z ⟨hz,hz2⟩;have HZ:=aa (zA hz hz2);clear hz hz2;go_wp2_with fail
 refine (uh CX _).mono ?_;rintro e z1 ⟨rfl,hb1⟩;have HZ1:=aa (zA ((uh HZ).1.trans (hb1.mono (uh HZ).1.size)) ((hb1.block _ (ge.1 (uh HZ).2).1).trans (uh HZ).2));clear hb1 HZ;go_wp2_with fail
 refine (uh CH z1 (uh HZ1).1).mono ?_;rintro e y1 ⟨cl,vs,rfl,hA,hf,hb1⟩;have hbs1:=(uh HZ1).1.size;have HB1:=aa ((uh HZ1).1.trans (hb1.mono hbs1));have HO1:=aa ((hb1.block _ (ge.1 (uh HZ1).2).1).trans (uh HZ1).2);have HA:=aa (zA hA hf);clear hA hf hb1 HZ1;have hcz:cl.toArray.size=33:=by rw [List.size_toArray,(uh HA).1.len]
 go_wp2_with (refine wpList_store_rowTo rfl 121 (.tmp 6) (.tmp 25) rfl rfl W.heap.size cl.toArray rfl rfl 121 bk (uh HO1) (by rw [hcz];exact aw) (by rw [hcz];rfl) (uh HA).1.one ?_)
 refine bodyPost_ret (v:=.agg cl.toArray) (by simp [results,results98,asAddr,ay (setRow_heap y1 W.heap.size _ cl.toArray _ _ (uh HO1)) hcz]) rfl ⟨cl,vs,rfl,(uh HA).1.setRow hbs1 (uh HO1) ⟨by decide,by decide⟩ _,fun g hg=>zE hbs1 ((uh HA).2 g hg),am (uh HB1) (zD _) _⟩
theorem zu (h:DkM base W D k ca) (t:ByteArray) :
  Calls prog 98 #[.pointer (some ⟨D,0,none⟩),.string ⟨#[100,111]⟩,.string t] W fun r q=>vB W (kC k.s.e k.s.F1 k.s.F2 t k.now) r q:=by
 have CH:=aa fun W' (hb:Below W.heap.size W W')=>cDo (h.below hb).en (h.below hb).lo t k.now
 have HK:=aa fun W' (hb:Below W.heap.size W W')=>h.below hb
 generalize kC k.s.e k.s.F1 k.s.F2 t k.now=oo at *;have hl:=h.en.len;have hlt:=h.lt;clear h;go_enter func98,ntmps98
 go_upto_region 3 with fail
 refine aI (fun q=>Below W.heap.size W q∧q.heap[W.heap.size]?=some (.cells bk 121)) ⟨(zC _ _).alloc (zD _) _,zF W _⟩ ?_;rintro z ⟨hz1,hz2⟩;have HB:=aa hz1.drew;have HO:Hid (z.drew.heap[W.heap.size]?=some (.cells bk 121)):=aa hz2;clear hz1 hz2;have HY:=aa (uh HK z.drew (uh HB));refine wp_region_held_drew (S:=fun q=>DkM base q D k ca∧q.cell? ⟨D,36,none⟩=some (.int .i64 k.now)) (by kernel_rfl) ⟨uh HY,(uh HY).nowC⟩ (fun hHeld=>?_);generalize z.drew=y at *;refine tt 0 1 ?_;refine t2 2 ?_;refine t4 3 (.agg ca.toArray) rfl (yieldsIf_load_mid (by rfl) 72 (.tmp 12) rfl D 6 rfl ca _ (fun z hz=>hz.1.rangeE) underlying72 rfl (by rw [hl];exact aL)) ?_;try simp only [Act.put,sA,sZ,sS,gA,gZ,gS]
 refine t2 4 ?_;refine tq 5 6 7 8 ?_;refine r3 9 fun K hK=>?_
 go_simp;refine (uh CH y (uh HB)).mono ?_;rintro e y1 ⟨cl,vs,rfl,hA,hf,hb1⟩;have hbs:=(uh HB).size;have HB1:=aa ((uh HB).trans (hb1.mono hbs));have HY1:=aa ((uh HY).below hb1);have HO1:=aa ((hb1.block _ (ge.1 (uh HO)).1).trans (uh HO));have HA:=aa (zA hA hf);clear hA hf hb1 HO HY;go_wp2_with fail
 refine ro hK ⟨uh HY1,(uh HY1).nowC⟩ fun _=>?_
 refine r3 10 fun K hK=>?_
 rw [if_pos (by rfl)];have hcz:cl.toArray.size=33:=by rw [List.size_toArray,(uh HA).1.len]
 have hba:base≤W.heap.size:=by have:=(uh HY1).bs;omega
 refine wp_store_row 121 (.tmp 6) (.tmp 19) rfl W.heap.size cl.toArray rfl rfl 121 bk (uh HO1) (by rw [hcz];exact aw) (by rw [hcz];rfl) (uh HA).1.one ?_;have HY2:=aa ((uh HY1).setRow (uh HO1) ⟨by decide,by decide⟩ hba cl.toArray);refine ro hK ⟨uh HY2,(uh HY2).nowC⟩ fun _=>?_
 refine dn ?_ _;go_wp2_with fail
 refine bodyPost_ret (v:=.agg cl.toArray) (by simp [results,results98,asAddr,ay (setRow_heap y1 W.heap.size _ cl.toArray _ _ (uh HO1)) hcz]) rfl ⟨cl,vs,rfl,(uh HA).1.setRow hbs (uh HO1) ⟨by decide,by decide⟩ _,fun g hg=>zE hbs ((uh HA).2 g hg),am (uh HB1) (zD _) _⟩
end
def cL (o:EO):List ByteArray:=[⟨#[115,116,97,116,101]⟩,bT o.e.st] ++ o.sn.map fun p=>bb (rE p)
theorem jT (t:ByteArray):(bb t).size≤8000:=by
 unfold bb;by_cases h:t.size≤4000
 ·rw [if_pos h];have e:(co (eB t.data.toList)).size=(eB t.data.toList).length:=by unfold co;show (eB t.data.toList).toArray.size=_;simp
  have e2:t.data.toList.length=t.size:=by rw [Array.length_toList];rfl
  rw [e,gw,e2];omega
 ·rw [if_neg h];exact Nat.zero_le _
section
variable {base:Nat} {W W':World} {D:Nat} {k:Ks} {ca:List Value}
theorem DkM.setE (h:DkM base W D k ca) {cb:List Value} {s':Sd} (he:EnM base W cb s'):DkM base (W.setCells D 6 cb) D ⟨k.d,s',k.now,k.at'⟩ cb∧Od D W (W.setCells D 6 cb):=by
 have r:=cH ca cb (iP k.d) [Value.int .i64 k.now,Value.int .i64 k.at'] W h.row (by rw [he.len,h.en.len]);have f:=Fr.cells (B:=D) (.slice none 0 0) (.slice none 0 0) W (fun _ hg=>by cases hg) 6 cb;have hs:∀ g,g≠D→(W.setCells D 6 cb).heap[g]?=W.heap[g]?:=fun g hg=>bu hg cb 6 W
 have hb:Below base W (W.setCells D 6 cb):=⟨f.os,f.tape,f.output,f.size,fun b hb=>hs b (by have:=h.bs;omega)⟩;exact ⟨⟨r,he.keep fun g _ hg=>hs g (fQ h.row hg (by decide)),h.bs,h.lo.step hb,h.tb.step hb⟩,f.os,f.tape,f.output,f.size,fun b _ hD=>hs b hD⟩
structure FoD (base:Nat) (W:World) (D E:Nat) (k1:Ks) (cb cl:List Value) (vs:Value) (o:EO) (q:World):Prop where
 dk:DkM base q D k1 cb
 er:q.heap[E]?=some (.cells cl.toArray 121)
 hp:HoldsP q vs o.sn
 od:Od D W q
 be:base≤W.heap.size
section
variable {E:Nat} {k1:Ks} {cb cl:List Value} {vs:Value} {o:EO} {q q':World}
theorem FoD.keep (h:FoD base W D E k1 cb cl vs o q) (os:q'.os=q.os) (tape:q'.tape=q.tape) (output:q'.output=q.output) (size:q.heap.size≤q'.heap.size) (low:∀ g,g<W.heap.size→q'.heap[g]?=q.heap[g]?) (k:∀ (g:Nat) (cur:Array Value) (T:TypeId),q.heap[g]?=some (.cells cur T)→T≠9→q'.heap[g]?=q.heap[g]?):FoD base W D E k1 cb cl vs o q':=by
 have hb:Below base q q':=⟨os,tape,output,size,fun b hb=>low b (Nat.lt_of_lt_of_le hb h.be)⟩;refine ⟨⟨(k D _ _ h.dk.row (by decide)).trans h.dk.row,h.dk.en.keep fun g cur hg=>k g cur _ hg (by decide),h.dk.bs,h.dk.lo.step hb,h.dk.tb.step hb⟩,(k E _ _ h.er (by decide)).trans h.er,h.hp.imp id fun ⟨g,cp,cur,e,q1,q2⟩=>⟨g,cp,cur,e,(k g _ _ q1 (by decide)).trans q1,q2⟩,?_,h.be⟩;exact ⟨os.trans h.od.os,tape.trans h.od.tape,output.trans h.od.output,zE h.od.size size,fun g hg hD=>(low g hg).trans (h.od.same g hg hD)⟩
theorem FoD.below (h:FoD base W D E k1 cb cl vs o q) (hb:Below q.heap.size q q'):FoD base W D E k1 cb cl vs o q' :=
 h.keep hb.os hb.tape hb.output hb.size (fun g hg=>hb.block g (Nat.lt_of_lt_of_le hg h.od.size)) fun g _ _ hg _=>hb.block g (ge.1 hg).1
theorem FoD.grown (h:FoD base W D E k1 cb cl vs o q) {r:Option Nat} (hg:q.grownBy q' r) (hr:∀ g,r=some g→W.heap.size≤g∧∃ c,q.heap[g]?=some (.cells c 9)):FoD base W D E k1 cb cl vs o q' :=
 h.keep hg.os hg.tape hg.output hg.size (fun g hl=>hg.block g (Nat.lt_of_lt_of_le hl h.od.size) fun e=>by have:=(hr g e.symm).1;omega) fun g cur T hc hT=>hg.block g (ge.1 hc).1 fun e=>by
  obtain ⟨_,c,h2⟩:=hr g e.symm;exact fQ h2 hc (Ne.symm hT) rfl
theorem mA {W:World} {base:Nat} {e:TypeId} {size n:Nat} {v:Value} {xs:List Value} (h:W.ownsRow base e size v n xs) (g:Nat) (hg:v.ownBlock=some g):base≤g∧∃ cur,W.heap[g]?=some (.cells cur e):=by
 refine ⟨(h.lt g hg).1,?_⟩;rcases h.2 with ⟨h1,h2⟩ | ⟨g',cap,cur,h1,_,h3,_⟩
 ·rw [h1] at hg;cases hg
 ·rw [h1] at hg;cases hg;exact ⟨cur,h3⟩
theorem zv (p:Op.Pk):(rE p).size≤100000:=by
 cases hk:Op.pok p
 ·rw [mH hk];decide
 ·rw [kj hk,ByteArray.size_append];have h9:p.data.size≤250:=by unfold Op.pok at hk;exact (of_decide_eq_true hk).2.2.2.2
  have e:(co (Op.phead p)).size=(Op.phead p).length:=by unfold co;show (Op.phead p).toArray.size=_;simp
  have e2:(Op.phead p).length=4:=rfl;rw [e,e2];omega
theorem lL (o:EO):(cL o).length=o.sn.length+2:=by unfold cL;simp
theorem qb (o:EO) (hds:(bT o.e.st).size≤10000):∀ x ∈ cL o,x.size≤10000:=by
 intro x hx;unfold cL at hx;simp only [List.cons_append,List.nil_append,List.mem_cons,List.mem_map] at hx;rcases hx with rfl | rfl | ⟨p,_,rfl⟩
 ·decide
 ·exact hds
 ·exact zE (jT _) (by omega)
theorem qg (o:EO) (i:Nat) (hi:i<o.sn.length):(cL o).take (i+1+2)=(cL o).take (i+2) ++ [bb (rE o.sn[i])]:=by
 have e:∀ j,(cL o).take (j+2)=[⟨#[115,116,97,116,101]⟩,bT o.e.st] ++ (o.sn.take j).map fun p=>bb (rE p):=fun j=>by
  unfold cL;simp [List.map_take]
 rw [e,e,List.take_add_one,List.getElem?_eq_getElem hi,List.map_append,List.append_assoc];rfl
theorem lR (h:DkM base W D k ca) {b:Nat} (hA:AnE b W o cl vs) (hbb:base≤b) (h0:o.cd=0) (hB:EoB o) (hst:0≤o.e.st∧o.e.st≤100) (hds:(bT o.e.st).size≤10000) :
  Calls prog 97 #[.pointer (some ⟨D,0,none⟩),.agg cl.toArray] W fun e W'=>e=.returned (.tuple #[.string (df (cL o)),.nilIface])∧∃ cb,DkM base W' D ⟨k.d,⟨o.e,o.F1,o.F2,[]⟩,k.now,k.at'⟩ cb∧Od D W W':=by
 have hb:Below W.heap.size W (W.alloc (.cells cl.toArray 121)):=(zC _ _).alloc (zD _) _;have hE:=zF W (.cells cl.toArray 121);have hp0:HoldsP (W.alloc (.cells cl.toArray 121)) vs o.sn:=hA.hp.imp id fun ⟨g,cp,cur,e,q1,q2⟩=>⟨g,cp,cur,e,(hb.block g (ge.1 q1).1).trans q1,q2⟩
 have hen:EnM base (W.alloc (.cells cl.toArray 121)) (cl.take 30) ⟨o.e,o.F1,o.F2,[]⟩:=(hA.en hB [] hbb).keep fun g cur hg=>hb.block g (ge.1 hg).1
 have h9:=h.below hb;have hlen:=hA.len;have hone:=hA.one;have hcd:=hA.cd;have hl:=h.en.len;have hltD:=h.lt;have hbD:=h.bs;have hsn:o.sn.length≤100:=hB.l3;obtain ⟨a3,c3,hvs⟩:=hA.form;subst hvs;have hst12:cl[12]?=some (.int .i64 o.e.st):=by
  obtain ⟨x1,x2,a3,a4,y1,y2,c3,c4,rfl,_⟩:=hA;kernel_rfl
 have r30:(W.alloc (.cells cl.toArray 121)).rangeAt W.heap.size 0 (cl.take 30):=by
  have hE2:=hE;rw [← List.take_append_drop 30 cl,← List.nil_append (cl.take 30)] at hE2;have:=aS hE2
  rw [← List.take_append_drop 30 cl];simpa using this
 have h3:(cl.take 30).toArray.all (·.oneCell')=true:=all_oneCell_toArray fun v hv=>Array.all_eq_true_iff_forall_mem.1 hone v (by simpa using List.mem_of_mem_take hv)
 have h4:(cl.take 30).length=30:=by rw [List.length_take];omega
 have tB:=ii h9.row;rw [hl] at tB;have c32:(W.alloc (.cells cl.toArray 121)).cell? ⟨W.heap.size,32,none⟩=some (.int .i64 0):=by rw [cr hE,List.getElem?_toArray,← h0];exact hcd.1
 have F0:Hid (FoD base W D W.heap.size ⟨k.d,⟨o.e,o.F1,o.F2,[]⟩,k.now,k.at'⟩ (cl.take 30) cl (.slice a3 o.sn.length c3) o ((W.alloc (.cells cl.toArray 121)).setCells D 6 (cl.take 30))):=aa (by
  obtain ⟨q1,q2⟩:=h9.setE hen;have hs:∀ g,g≠D→((W.alloc (.cells cl.toArray 121)).setCells D 6 (cl.take 30)).heap[g]?=(W.alloc (.cells cl.toArray 121)).heap[g]?:=fun g hg=>bu hg _ 6 _
  refine ⟨q1,(hs _ (by omega)).trans hE,hp0.imp id fun ⟨g,cp,cur,e,q1,q2⟩=>⟨g,cp,cur,e,(hs g (fQ h9.row q1 (by decide))).trans q1,q2⟩,(Od.of_below hb).trans q2,by omega⟩)
 have HR:=aa (zA r30 (zA tB (zA c32 hb)));have HC:=aa (zA hst12 hcd);clear hb hE hp0 hen h9 h r30 tB hA hone c32 hst12 hcd;generalize hk1:(⟨k.d,⟨o.e,o.F1,o.F2,[]⟩,k.now,k.at'⟩:Ks)=k1 at F0 ⊢;go_enter func97,ntmps97
 go_upto_region 1 with (refine Great.wpList_allocTo rfl (some 3) rfl (.pointer (some ⟨W.heap.size,0,none⟩)) (.cells cl.toArray 121) (by simp [go_sem]) ?_)
 refine aI (fun q=>q.rangeAt W.heap.size 0 (cl.take 30)∧q.there D 6 30∧q.cell? ⟨W.heap.size,32,none⟩=some (.int .i64 0)∧FoD base W D W.heap.size k1 (cl.take 30) cl (.slice a3 o.sn.length c3) o (q.setCells D 6 (cl.take 30))) ⟨(uh HR).1,(uh HR).2.1,(uh HR).2.2.1,uh F0⟩ ?_;clear HR F0;rintro q ⟨r30,tB,c32,hF0⟩;have HR:=aa (zA r30 tB);have F0:=aa hF0;clear r30 tB hF0;generalize W.heap.size=E at *;generalize hct:cl.take 30=ct at *
 go_upto_region 4 with (first
  | (refine wpList_load_mid rfl 72 (.tmp 17) rfl E 0 rfl ct _ (uh HR).1 underlying72 rfl (by rw [h4];exact aL) ?_)
  | (refine wpList_store_mid rfl 72 (.tmp 20) (.tmp 18) rfl D 6 ct.toArray rfl rfl (by rw [List.size_toArray,h4];exact (uh HR).2) (by rw [List.size_toArray,h4];exact aL) h3 ?_))
 refine aI (fun q=>FoD base W D E k1 ct cl (.slice a3 o.sn.length c3) o q) (uh F0) ?_;clear F0 HR c32;intro q1 hF1;have HF1:=aa hF1;have c12:q1.cell? ⟨E,12,none⟩=some (.int .i64 o.e.st):=by rw [cr hF1.er,List.getElem?_toArray];exact (uh HC).1
 have HT:=aa hF1.dk.tb.get.1;clear hF1;go_wp2_with fail
 refine (mm o.e.st q1 (by omega) (by omega) (uh HT)).mono ?_;rintro e q2 ⟨rfl,hb2⟩;have HF2:=aa ((uh HF1).below hb2);clear hb2 c12 HT HF1;have HL:=aa (World.ownsRow_lit q2 (#[.string ⟨#[115,116,97,116,101]⟩,.string (bT o.e.st)]:Array Value) 2 (zD _) (by decide) rfl:(q2.alloc (.cells #[.string ⟨#[115,116,97,116,101]⟩,.string (bT o.e.st)] 9)).ownsRow q2.heap.size 9 1 (.slice (some ⟨q2.heap.size,0,none⟩) 2 2) 2 [.string ⟨#[115,116,97,116,101]⟩,.string (bT o.e.st)]);go_upto_region 5 with fail
 refine aI (fun q=>FoD base W D E k1 ct cl (.slice a3 o.sn.length c3) o q∧q.ownsRow q2.heap.size 9 1 (.slice (some ⟨q2.heap.size,0,none⟩) 2 2) 2 (a_ ((cL o).take 2))) ⟨(uh HF2).below ((zC _ _).alloc (zD _) _),uh HL⟩ ?_;have hq2:=(uh HF2).od.size;generalize q2.heap.size=Q2 at *;clear HF2 HL;rintro q3 ⟨hF3,hO3⟩;have c30:q3.cell? ⟨E,30,none⟩=some (.slice a3 o.sn.length c3):=by rw [cr hF3.er,List.getElem?_toArray];exact (uh HC).2.2
 have HF3:=aa (zA hF3 hO3);clear hF3 hO3;generalize hn:o.sn.length=n at *;go_wp2_with fail
 clear c30;go_loopw [6,29] (fun x p wr=>∃ (i:Nat) (ad:Option Addr) (cp:Nat),i≤n∧p=.int .i64 i∧x=.slice ad (i+2) cp∧wr.ownsRow Q2 9 1 (.slice ad (i+2) cp) (i+2) (a_ ((cL o).take (i+2)))∧FoD base W D E k1 ct cl (.slice a3 n c3) o wr) (fun _ p _=>n - (intOf p).toNat)
 case atStart=>exact ⟨0,_,_,Nat.zero_le _,rfl,rfl,(uh HF3).2,(uh HF3).1⟩
 case round =>
  obtain ⟨i,ad,cp,hi,rfl,rfl,hO,hF⟩:=hrel;clear HF3;by_cases hlt:i<n
  ·have d1:(i:Int)<(n:Int):=by omega
   have d2:(0:Int)≤(i:Int):=by omega
   obtain ⟨g,ea3,cur,k1,k3⟩:∃ g,a3=some ⟨g,0,none⟩∧∃ cur,wr.heap[g]?=some (.cells cur 32)∧∀ j,j<n*3→cur[j]?=(ae o.sn)[j]?:=by
    rcases hF.hp with ⟨ad,cp,e,e2⟩ | ⟨g,cp,cur,e,q1,_,q3⟩
    ·rw [e2] at hn;simp at hn;omega
    ·injection e with e _ _;exact ⟨g,e,cur,q1,fun j hj=>q3 j (by rw [hn];exact hj)⟩
   subst ea3;have hi2:i<o.sn.length:=by omega
   obtain ⟨x0,x1,x2⟩:=tJ k1 (by rw [hn];exact k3) hi2;have HX:=aa (qg o i hi2);have HF:=aa (zA hF hO);clear hF hO k1 k3;generalize o.sn[i]=p at *;obtain ⟨pc,pi,pd⟩:=p;dsimp only at x0 x1 x2;go_upto_region 8 with fail
   refine aI (fun q=>FoD base W D E k1 ct cl (.slice (some ⟨g,0,none⟩) n c3) o q∧q.ownsRow Q2 9 1 (.slice ad (i+2) cp) (i+2) (a_ ((cL o).take (i+2)))∧q.heap[wr.heap.size]?=some (.cells #[.int .i64 pc,.int .i64 pi,.string pd] 32)) ⟨(uh HF).1.below ((zC _ _).alloc (zD _) _),(uh HF).2.alloc _,zF wr _⟩ ?_;generalize wr.heap.size=N at *;clear HF x0 x1 x2;rintro z ⟨hF,hO,hN⟩;have y0:z.cell? ⟨N,0,none⟩=some (.int .i64 pc):=by rw [cr hN];rfl
   have y1:z.cell? ⟨N,1,none⟩=some (.int .i64 pi):=by rw [cr hN];rfl
   have y2:z.cell? ⟨N,2,none⟩=some (.string pd):=by rw [cr hN];rfl
   have HF:=aa (zA hF hO);clear hF hO hN;go_wp2_with fail
   refine (lq ⟨pc,pi,pd⟩ z).mono ?_;rintro e z1 ⟨rfl,hb1⟩;have HF1:=aa (zA ((uh HF).1.below hb1) (aP (uh HF).2 hb1));clear hb1 HF y0 y1 y2;go_wp2_with fail
   refine (qa (rE ⟨pc,pi,pd⟩) z1 (by have:=zv ⟨pc,pi,pd⟩;unfold maxLen;omega)).mono ?_;rintro e z2 ⟨rfl,hb2⟩;have HF2:=aa (zA ((uh HF1).1.below hb2) (aP (uh HF1).2 hb2));clear hb2 HF1;have hsz:Q2≤z2.heap.size:=by
    rcases (uh HF2).2.2 with ⟨_,h2⟩ | ⟨g',_,cur,_,h2,h3,_⟩
    ·omega
    ·exact zE h2 (Nat.le_of_lt (ge.1 h3).1)
   have hTl:((cL o).take (i+2)).length=i+2:=by rw [List.length_take,lL];omega
   go_wp2_with (at_builtin;refine dw rfl _ _ rfl Q2 (.slice ad (i+2) cp) ((cL o).take (i+2)) (i+2) hTl rfl (uh HF2).2 (bb (rE ⟨pc,pi,pd⟩)) rfl (by omega) hsz ?_;rintro v6 w6 ho6 hg6;obtain ⟨a6,c6,rfl⟩:=af ho6)
   rw [← uh HX] at ho6;have HF6:=aa (zA (((uh HF2).1.below ((zC _ _).alloc (zD _) (.cells #[.string (bb (rE ⟨pc,pi,pd⟩))] 9))).grown hg6 fun g hg=>by
    obtain ⟨h1,cur,h2⟩:=mA ((uh HF2).2.alloc (.cells #[.string (bb (rE ⟨pc,pi,pd⟩))] 9)) g hg;exact ⟨zE hq2 h1,cur,h2⟩) ho6)
   clear hg6 ho6 HF2 hsz;go_roundw
   case rel=>exact ⟨i+1,a6,c6,by omega,by go_num,rfl,(uh HF6).2,(uh HF6).1⟩
   case measure=>simp [intOf];omega
  ·have e:i=n:=by omega
   subst e;have d1:¬ ((i:Int)<(i:Int)):=by omega
   have hTl:=lL o;rw [hn] at hTl;rw [List.take_of_length_le (by omega)] at hO;have HF:=aa (zA hF hO);clear hF hO;go_wp2_with fail
   refine (vb Q2 _ (cL o) (i+2) wr hTl (uh HF).2 (by omega) (qb o hds)).mono ?_;rintro e z ⟨rfl,hb⟩;have HF1:=aa ((uh HF).1.below hb);clear hb HF;go_wp2_with fail
   go_ret2
   exact ⟨rfl,ct,(uh HF1).dk,(uh HF1).od⟩
end
end
end Go.Proofs.YtjebigodbnefiaaGreatDoor
