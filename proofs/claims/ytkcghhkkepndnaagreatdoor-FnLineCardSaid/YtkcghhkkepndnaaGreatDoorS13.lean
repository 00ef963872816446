/- The program's fillWindow, a loop of goto: frames go out within the window; and LapbNext; what else lay in memory stands. -/
import Derived.Test.YtkcghhkkepndnaaGreatDoorS11
import Derived.Test.YtkcghhkkepndnaaGreatDoorS06
import Derived.Test.YtkcghhkkepndnaaGreatDoorShW
namespace Go.Proofs.YtkcghhkkepndnaaGreatDoor
open Go.RowKit
section
variable {w0:World} {B M:Nat} {wi vs va vr:Int} {ak:Bool} {S Q:List ByteArray} {t:ByteArray} {F:List Nb} {G:List ByteArray} {vf vg:Value} {q q':World} {g o nq cp:Nat}
theorem fw_cells (h:Lw w0 B M ⟨wi,vs,va,vr,ak⟩ S (t :: Q) F G (.slice (some ⟨g,o,none⟩) nq cp) vf vg q) :
  q.cell? ⟨B,1,none⟩=some (.int .i64 vs)∧q.cell? ⟨B,3,none⟩=some (.int .i64 vr)∧q.cell? ⟨B,4,none⟩=some (.slice (some ⟨g,o,none⟩) nq cp)∧q.cell? ⟨g,o,none⟩=some (.string t):=by
 obtain ⟨c0,c1,c2,c3,c4,c5,c6,c7,c8⟩:=row9l h.row
 obtain ⟨g',o',cp',e,k1,_⟩:=h.hq.first
 simp only [Value.slice.injEq,Option.some.injEq,Addr.mk.injEq] at e
 obtain ⟨⟨rfl,rfl,_⟩,_⟩:=e
 exact ⟨c1,c3,c4,k1⟩
theorem fw_grow (h:Lw w0 B M ⟨wi,vs,va,vr,ak⟩ S (t :: Q) F G (.slice (some ⟨g,o,none⟩) nq cp) vf vg q) (hg:q.grownBy q' vf.ownBlock) :
  q'.cell? ⟨B,7,none⟩=some vf∧q'.frozen? ⟨B,7,none⟩=false∧q'.cell? ⟨B,1,none⟩=some (.int .i64 vs)∧q'.cell? ⟨B,3,none⟩=some (.int .i64 vr)∧q'.cell? ⟨B,4,none⟩=some (.slice (some ⟨g,o,none⟩) nq cp)∧q'.cell? ⟨g,o,none⟩=some (.string t):=by
 have nT:∀ (k:Nat) (ob:Obj),q.heap[k]?=some ob→(∀ cur,ob≠.cells cur 96)→q'.heap[k]?=q.heap[k]?:=fun k ob h1 h2=>by
  refine hg.block k (Array.getElem?_eq_some_iff.1 h1).1 (fun e=>?_)
  rcases h.of.2 with ⟨e1,_⟩ | ⟨g,cap,cur,e1,_,e3,_⟩
  ·rw [e1] at e;cases e
  ·rw [e1] at e
   have e':k=g:=Option.some.inj e
   rw [e',e3] at h1
   exact h2 cur (Option.some.inj h1).symm
 have hB':=(nT B _ h.row (fun cur e=>by cases e)).trans h.row
 obtain ⟨c0,c1,c2,c3,c4,c5,c6,c7,c8⟩:=row9l hB'
 obtain ⟨g',o',cp',e,k1,_⟩:=h.hq.first
 simp only [Value.slice.injEq,Option.some.injEq,Addr.mk.injEq] at e
 obtain ⟨⟨rfl,rfl,_⟩,_⟩:=e
 have hh:=(fw_cells h).2.2.2
 refine ⟨c7,frz hB' 7,c1,c3,c4,?_⟩
 rcases h.hq with ⟨e1,_⟩ | ⟨gg,oo,cc,cur,e1,e2,_⟩
 ·cases e1
 ·simp only [Value.slice.injEq,Option.some.injEq,Addr.mk.injEq] at e1
  obtain ⟨⟨rfl,rfl,_⟩,_⟩:=e1
  rw [World.cell?_of_block (w:=q) (nT g _ e2 (fun cur' e=>by cases e))]
  exact hh
end
def outs (vs vr:Int) (Q:List ByteArray) (k:Nat):List Nb:=(List.range k).map fun (i:Nat)=>⟨1,(vs+(i:Int)) % 8,vr,Q.getD i ⟨#[]⟩⟩
theorem outs_len (vs vr:Int) (Q:List ByteArray) (k:Nat):(outs vs vr Q k).length=k:=by simp [outs]
theorem outs_snoc (vs vr:Int) (Q:List ByteArray) (k:Nat):outs vs vr Q (k+1)=outs vs vr Q k ++ [⟨1,(vs+(k:Int)) % 8,vr,Q.getD k ⟨#[]⟩⟩]:=by simp [outs,List.range_succ]
def waits (B:Nat) (wr:World):Nat:=match wr.cell? ⟨B,4,none⟩ with
 | some (.slice _ n _)=>n
 | _=>0
def Jw (w0:World) (B M:Nat) (p:Lp) (S Q:List ByteArray) (G:List ByteArray) (vg:Value) (m:Nat) (k:Nat) (wr:World):Prop :=
 k≤m∧∃ vq vf,Lw w0 B M ⟨p.wi,(p.vs+(k:Int)) % 8,p.va,p.vr,p.ak⟩ (S ++ Q.take k) (Q.drop k) (outs p.vs p.vr Q k) G vq vf vg wr
def Jf (w0:World) (B M:Nat) (p:Lp) (S Q:List ByteArray) (G:List ByteArray) (vg:Value) (m:Nat) (l:Nat) (ac:Act) (wr:World):Prop :=
 l=0∧∃ u1 u2 u3 u4 u5 u6 u7 u8 u9 u10 u11 u12 u13 u14 u15 u16 u17 u18 u19 u20 u21 u22 u23 u24 u25 u26 u27 u28 u29 u30 u31 u32 u33 u34 u35 u36 u37 u38 u39 u40 u41 u42 u43 u44 u45 u46 u47 u48 u49 u50 u51:Value,ac={ tmps:=#[.pointer (some ⟨B,0,none⟩),u1,u2,u3,u4,u5,u6,u7,u8,u9,u10,u11,u12,u13,u14,u15,u16,u17,u18,u19,u20,u21,u22,u23,u24,u25,u26,u27,u28,u29,u30,u31,u32,u33,u34,u35,u36,u37,u38,u39,u40,u41,u42,u43,u44,u45,u46,u47,u48,u49,u50,u51],defers:=[] }∧∃ k,Jw w0 B M p S Q G vg m k wr
theorem waits_eq {w0:World} {B M:Nat} {p:Lp} {S Q:List ByteArray} {F:List Nb} {G:List ByteArray} {vq vf vg:Value} {q:World} (h:Lw w0 B M p S Q F G vq vf vg q):waits B q=Q.length:=by
 obtain ⟨qa,qc,rfl⟩:=h.hq.form
 unfold waits
 rw [(row9l h.row).2.2.2.2.1]
set_option linter.unusedSimpArgs false in
set_option maxHeartbeats 16000000 in
set_option maxRecDepth 100000 in
theorem iFill {w0:World} {B M:Nat} {p:Lp} {S Q:List ByteArray} {G:List ByteArray} {vq vg:Value} {q:World} (h:Lw w0 B M p S Q [] G vq (.slice none 0 0) vg q) (ha:0≤p.va∧p.va≤7) (hwi:1≤p.wi∧p.wi≤7) (hS:(S.length:Int)≤p.wi) (hv:p.vs=(p.va+S.length) % 8) (hQ:Q.length≤100) (hT:∀ t ∈ Q,t.size≤1048576) (m:Nat) (hm:m=min (p.wi.toNat - S.length) Q.length) :
  Calls Tryz.prog 88 #[.pointer (some ⟨B,0,none⟩)] q fun e q'=>e=.returned (.tuple #[])∧∃ vq' vf',Lw w0 B M ⟨p.wi,(p.vs+(m:Int)) % 8,p.va,p.vr,p.ak⟩ (S ++ Q.take m) (Q.drop m) (outs p.vs p.vr Q m) G vq' vf' vg q':=by
 have H0:Hid (Jw w0 B M p S Q G vg m 0 q):=by
  have e1:(p.vs+((0:Nat):Int)) % 8=p.vs:=by omega
  refine hide ⟨Nat.zero_le _,vq,.slice none 0 0,?_⟩
  rw [e1,List.take_zero,List.append_nil,List.drop_zero]
  exact h
 clear h
 have CC:Hid (∀ (t:ByteArray) v,t.size≤1048576→Calls Tryz.prog 60 #[.string t] v fun e w'=>e=.returned (.string t)∧Below v.heap.size v w'):=hide fun t v ht=>cloneS t v (by omega)
 have HT:=hide hT
 obtain ⟨wi,vs,va,vr,ak⟩:=p
 dsimp only at *
 have HV:=hide (And.intro hv hm)
 have HU:=hide (And.intro ha (And.intro hwi (And.intro hS hQ)))
 clear hv hm ha hwi hS hQ hT
 go_enter Tryz.func88,Tryz.ntmps88
 go_wp2_with fail
 refine wp_jumps (Jf w0 B M ⟨wi,vs,va,vr,ak⟩ S Q G vg m) (fun _ wr=>waits B wr) ?_ ?_
 ·rintro l ac wr ⟨rfl,u1,u2,u3,u4,u5,u6,u7,u8,u9,u10,u11,u12,u13,u14,u15,u16,u17,u18,u19,u20,u21,u22,u23,u24,u25,u26,u27,u28,u29,u30,u31,u32,u33,u34,u35,u36,u37,u38,u39,u40,u41,u42,u43,u44,u45,u46,u47,u48,u49,u50,u51,rfl,k,hJ⟩
  refine ⟨_,rfl,?_⟩
  obtain ⟨hkm,vq',vf,hL⟩:=hJ
  have hmu:=waits_eq hL
  dsimp only at hmu hL
  rw [hmu]
  clear hmu H0 vq
  obtain ⟨hv,hm⟩:=uh HV
  obtain ⟨ha,hwi,hS,hQ⟩:=uh HU
  have hkQ:k≤Q.length:=by omega
  have hlenS:(S ++ Q.take k).length=S.length+k:=by rw [List.length_append,List.length_take];omega
  have hlenF:=outs_len vs vr Q k
  have hlenQ:(Q.drop k).length=Q.length - k:=List.length_drop
  have hln':=hL.drew.mp.len 3
  have hS7:(S ++ Q.take k).length≤7:=by rw [hlenS];omega
  rw [hlenS] at hln'
  obtain ⟨qa,qc,rfl⟩:=hL.hq.form
  obtain ⟨fa,fc,rfl⟩:=own_form hL.of
  obtain ⟨c0,c1,c2,c3,c4,c5,c6,c7,c8⟩:=row9l hL.drew.row
  obtain ⟨nq,hnq⟩:∃ nq,Q.length - k=nq:=⟨_,rfl⟩
  obtain ⟨ns,hns⟩:∃ ns,S.length+k=ns:=⟨_,rfl⟩
  rw [hlenQ,hnq] at c4
  rw [hns] at hln'
  have HLw:=hide hL
  clear hL
  by_cases hA:(ns:Int)=wi
  ·have hkm2:k=m:=by omega
   have d1:((ns:Int) == wi)=true:=beq_iff_eq.2 hA
   subst hkm2
   clear hA hv hm ha hwi hS hQ
   go_upto_region 0 with fail
   refine wp_region_held_drew (S:=fun z=>z.cell? ⟨B,6,none⟩=some (.map (some M))∧z.cell? ⟨B,0,none⟩=some (.int .i64 wi)∧z.cell? ⟨B,4,none⟩=some (.slice qa nq qc)∧(Builtin.len_ #[102] 3 #[.map (some M)]).run Tryz.prog z=.ok (.int .i64 (ns:Int)) z) (by kernel_rfl) ⟨c6,c0,c4,hln'⟩ (fun hHeld=>?_)
   refine tk 0 (v:=?vpa0) rfl ?hypa0 ?_
   case hypa0=>intro w hSw;(try dsimp only at hSw);go_simp;try with_reducible rfl
   try simp only [Act.put,sA,sZ,sS,gA,gZ]
   refine tk 1 (v:=?vpa1) rfl ?hypa1 ?_
   case hypa1=>intro w hSw;(try dsimp only at hSw);go_simp;try with_reducible rfl
   try simp only [Act.put,sA,sZ,sS,gA,gZ,gS]
   refine tk 2 (v:=?vpa2) rfl ?hypa2 ?_
   case hypa2=>intro w hSw;(try dsimp only at hSw);go_simp;try with_reducible rfl
   try simp only [Act.put,sA,sZ,sS,gA,gZ,gS]
   refine tk 3 (v:=?vpa3) rfl ?hypa3 ?_
   case hypa3=>intro w hSw;(try dsimp only at hSw);go_simp;try with_reducible rfl
   try simp only [Act.put,sA,sZ,sS,gA,gZ,gS]
   refine tk 4 (v:=?vpa4) rfl ?hypa4 ?_
   case hypa4=>intro w hSw;(try dsimp only at hSw);go_simp;try with_reducible rfl
   try simp only [Act.put,sA,sZ,sS,gA,gZ,gS]
   refine tk 5 (v:=?vpa5) rfl ?hypa5 ?_
   case hypa5=>intro w hSw;(try dsimp only at hSw);go_simp;try with_reducible rfl
   try simp only [Act.put,sA,sZ,sS,gA,gZ,gS]
   refine tk 6 (v:=?vpa6) rfl ?hypa6 ?_
   case hypa6=>intro w hSw;(try dsimp only at hSw);go_simp;try with_reducible rfl
   try simp only [Act.put,sA,sZ,sS,gA,gZ,gS]
   refine tk 7 (v:=?vpa7) rfl ?hypa7 ?_
   case hypa7=>intro w hSw;(try dsimp only at hSw);go_simp;try with_reducible rfl
   try simp only [Act.put,sA,sZ,sS,gA,gZ,gS]
   refine tk 8 (v:=?vpa8) rfl ?hypa8 ?_
   case hypa8=>intro w hSw;(try dsimp only at hSw);go_simp;try with_reducible rfl
   try simp only [Act.put,sA,sZ,sS,gA,gZ,gS]
   refine tk 9 (v:=?vpa9) rfl ?hypa9 ?_
   case hypa9=>intro w hSw;(try dsimp only at hSw);go_simp;try with_reducible rfl
   try simp only [Act.put,sA,sZ,sS,gA,gZ,gS]
   refine tk 10 (v:=?vpa10) rfl ?hypa10 ?_
   case hypa10=>intro w hSw;(try dsimp only at hSw);go_simp;try with_reducible rfl
   try simp only [Act.put,sA,sZ,sS,gA,gZ,gS]
   refine tk 11 (v:=?vpa11) rfl ?hypa11 ?_
   case hypa11=>intro w hSw;(try dsimp only at hSw);go_simp;try with_reducible rfl
   try simp only [Act.put,sA,sZ,sS,gA,gZ,gS]
   refine wpAnyH_take (i:=12) (v:=undef) rfl (by kernel_rfl) (by kernel_rfl) (by kernel_rfl) (fun _ _ _ h=>h) (Or.inr ⟨by rfl,rfl⟩) (by assumption) ?_
   try simp only [Act.put,sA,sZ,sS,gA,gZ,gS]
   refine wpAnyH_take (i:=13) (v:=undef) rfl (by kernel_rfl) (by kernel_rfl) (by kernel_rfl) (fun _ _ _ h=>h) (Or.inr ⟨by rfl,rfl⟩) (by assumption) ?_
   try simp only [Act.put,sA,sZ,sS,gA,gZ,gS]
   refine wpAnyH_take (i:=14) (v:=undef) rfl (by kernel_rfl) (by kernel_rfl) (by kernel_rfl) (fun _ _ _ h=>h) (Or.inr ⟨by rfl,rfl⟩) (by assumption) ?_
   try simp only [Act.put,sA,sZ,sS,gA,gZ,gS]
   refine wpAnyH_take (i:=15) (v:=undef) rfl (by kernel_rfl) (by kernel_rfl) (by kernel_rfl) (fun _ _ _ h=>h) (Or.inr ⟨by rfl,rfl⟩) (by assumption) ?_
   try simp only [Act.put,sA,sZ,sS,gA,gZ,gS]
   refine wpAnyH_take (i:=16) (v:=undef) rfl (by kernel_rfl) (by kernel_rfl) (by kernel_rfl) (fun _ _ _ h=>h) (Or.inr ⟨by rfl,rfl⟩) (by assumption) ?_
   try simp only [Act.put,sA,sZ,sS,gA,gZ,gS]
   refine wpAnyH_take (i:=17) (v:=undef) rfl (by kernel_rfl) (by kernel_rfl) (by kernel_rfl) (fun _ _ _ h=>h) (Or.inr ⟨by rfl,rfl⟩) (by assumption) ?_
   try simp only [Act.put,sA,sZ,sS,gA,gZ,gS]
   refine wpAnyH_take (i:=18) (v:=undef) rfl (by kernel_rfl) (by kernel_rfl) (by kernel_rfl) (fun _ _ _ h=>h) (Or.inr ⟨by rfl,rfl⟩) (by assumption) ?_
   try simp only [Act.put,sA,sZ,sS,gA,gZ,gS]
   refine tk 19 (v:=?vpa19) rfl ?hypa19 ?_
   case hypa19=>intro w hSw;(try dsimp only at hSw);go_simp;try with_reducible rfl
   try simp only [Act.put,sA,sZ,sS,gA,gZ,gS]
   refine wpAnyH_done (by kernel_rfl) ?_ _
   go_wp2_with fail
   rw [jumps_ret]
   refine bodyPost_ret (v:=.tuple #[]) ?_ ?_ ?_
   ·exact results_none rfl _ _ _
   ·rfl
   ·exact ⟨rfl,_,_,(uh HLw).drew⟩
  ·have d1:((ns:Int) == wi)=false:=beq_eq_false_iff_ne.2 hA
   by_cases hB0:nq=0
   ·have hkm2:k=m:=by omega
    subst hkm2
    have d2:((nq:Int) == 0)=true:=beq_iff_eq.2 (by omega)
    clear hA hB0 hv hm ha hwi hS hQ
    go_upto_region 0 with fail
    refine wp_region_held_drew (S:=fun z=>z.cell? ⟨B,6,none⟩=some (.map (some M))∧z.cell? ⟨B,0,none⟩=some (.int .i64 wi)∧z.cell? ⟨B,4,none⟩=some (.slice qa nq qc)∧(Builtin.len_ #[102] 3 #[.map (some M)]).run Tryz.prog z=.ok (.int .i64 (ns:Int)) z) (by kernel_rfl) ⟨c6,c0,c4,hln'⟩ (fun hHeld=>?_)
    refine tk 0 (v:=?vpb0) rfl ?hypb0 ?_
    case hypb0=>intro w hSw;(try dsimp only at hSw);go_simp;try with_reducible rfl
    try simp only [Act.put,sA,sZ,sS,gA,gZ]
    refine tk 1 (v:=?vpb1) rfl ?hypb1 ?_
    case hypb1=>intro w hSw;(try dsimp only at hSw);go_simp;try with_reducible rfl
    try simp only [Act.put,sA,sZ,sS,gA,gZ,gS]
    refine tk 2 (v:=?vpb2) rfl ?hypb2 ?_
    case hypb2=>intro w hSw;(try dsimp only at hSw);go_simp;try with_reducible rfl
    try simp only [Act.put,sA,sZ,sS,gA,gZ,gS]
    refine tk 3 (v:=?vpb3) rfl ?hypb3 ?_
    case hypb3=>intro w hSw;(try dsimp only at hSw);go_simp;try with_reducible rfl
    try simp only [Act.put,sA,sZ,sS,gA,gZ,gS]
    refine tk 4 (v:=?vpb4) rfl ?hypb4 ?_
    case hypb4=>intro w hSw;(try dsimp only at hSw);go_simp;try with_reducible rfl
    try simp only [Act.put,sA,sZ,sS,gA,gZ,gS]
    refine tk 5 (v:=?vpb5) rfl ?hypb5 ?_
    case hypb5=>intro w hSw;(try dsimp only at hSw);go_simp;try with_reducible rfl
    try simp only [Act.put,sA,sZ,sS,gA,gZ,gS]
    refine tk 6 (v:=?vpb6) rfl ?hypb6 ?_
    case hypb6=>intro w hSw;(try dsimp only at hSw);go_simp;try with_reducible rfl
    try simp only [Act.put,sA,sZ,sS,gA,gZ,gS]
    refine tk 7 (v:=?vpb7) rfl ?hypb7 ?_
    case hypb7=>intro w hSw;(try dsimp only at hSw);go_simp;try with_reducible rfl
    try simp only [Act.put,sA,sZ,sS,gA,gZ,gS]
    refine tk 8 (v:=?vpb8) rfl ?hypb8 ?_
    case hypb8=>intro w hSw;(try dsimp only at hSw);go_simp;try with_reducible rfl
    try simp only [Act.put,sA,sZ,sS,gA,gZ,gS]
    refine tk 9 (v:=?vpb9) rfl ?hypb9 ?_
    case hypb9=>intro w hSw;(try dsimp only at hSw);go_simp;try with_reducible rfl
    try simp only [Act.put,sA,sZ,sS,gA,gZ,gS]
    refine tk 10 (v:=?vpb10) rfl ?hypb10 ?_
    case hypb10=>intro w hSw;(try dsimp only at hSw);go_simp;try with_reducible rfl
    try simp only [Act.put,sA,sZ,sS,gA,gZ,gS]
    refine tk 11 (v:=?vpb11) rfl ?hypb11 ?_
    case hypb11=>intro w hSw;(try dsimp only at hSw);go_simp;try with_reducible rfl
    try simp only [Act.put,sA,sZ,sS,gA,gZ,gS]
    refine tk 12 (v:=?vpb12) rfl ?hypb12 ?_
    case hypb12=>intro w hSw;(try dsimp only at hSw);go_simp;try with_reducible rfl
    try simp only [Act.put,sA,sZ,sS,gA,gZ,gS]
    refine tk 13 (v:=?vpb13) rfl ?hypb13 ?_
    case hypb13=>intro w hSw;(try dsimp only at hSw);go_simp;try with_reducible rfl
    try simp only [Act.put,sA,sZ,sS,gA,gZ,gS]
    refine tk 14 (v:=?vpb14) rfl ?hypb14 ?_
    case hypb14=>intro w hSw;(try dsimp only at hSw);go_simp;try with_reducible rfl
    try simp only [Act.put,sA,sZ,sS,gA,gZ,gS]
    refine tk 15 (v:=?vpb15) rfl ?hypb15 ?_
    case hypb15=>intro w hSw;(try dsimp only at hSw);go_simp;try with_reducible rfl
    try simp only [Act.put,sA,sZ,sS,gA,gZ,gS]
    refine tk 16 (v:=?vpb16) rfl ?hypb16 ?_
    case hypb16=>intro w hSw;(try dsimp only at hSw);go_simp;try with_reducible rfl
    try simp only [Act.put,sA,sZ,sS,gA,gZ,gS]
    refine tk 17 (v:=?vpb17) rfl ?hypb17 ?_
    case hypb17=>intro w hSw;(try dsimp only at hSw);go_simp;try with_reducible rfl
    try simp only [Act.put,sA,sZ,sS,gA,gZ,gS]
    refine tk 18 (v:=?vpb18) rfl ?hypb18 ?_
    case hypb18=>intro w hSw;(try dsimp only at hSw);go_simp;try with_reducible rfl
    try simp only [Act.put,sA,sZ,sS,gA,gZ,gS]
    refine tk 19 (v:=?vpb19) rfl ?hypb19 ?_
    case hypb19=>intro w hSw;(try dsimp only at hSw);go_simp;try with_reducible rfl
    try simp only [Act.put,sA,sZ,sS,gA,gZ,gS]
    refine wpAnyH_done (by kernel_rfl) ?_ _
    go_wp2_with fail
    rw [jumps_ret]
    refine bodyPost_ret (v:=.tuple #[]) ?_ ?_ ?_
    ·exact results_none rfl _ _ _
    ·rfl
    ·exact ⟨rfl,_,_,(uh HLw).drew⟩
   ·have d2:((nq:Int) == 0)=false:=beq_eq_false_iff_ne.2 (by omega)
    have hk1:k+1≤m:=by omega
    have hnq0:0<nq:=by omega
    have hkq2:k<Q.length:=by omega
    obtain ⟨t,ht⟩:∃ t,Q[k]'hkq2=t:=⟨_,rfl⟩
    have hdr:Q.drop k=t :: Q.drop (k+1):=by rw [List.drop_eq_getElem_cons hkq2,ht]
    have htk:Q.take (k+1)=Q.take k ++ [t]:=by rw [List.take_succ_eq_append_getElem hkq2,ht]
    have hgt:Q.getD k ⟨#[]⟩=t:=by rw [List.getD,List.getElem?_eq_getElem hkq2,ht];rfl
    have CK:=hide fun v=>uh CC t v (uh HT t (by rw [← ht];exact List.getElem_mem _))
    obtain ⟨vk,hvk⟩:∃ vk,(vs+(k:Int)) % 8=vk:=⟨_,rfl⟩
    have hvk1:(vk+1) % 8=(vs+((k+1:Nat):Int)) % 8:=by omega
    have hvs:vk=(va+((S ++ Q.take k).length:Nat)) % 8:=by rw [hlenS];omega
    have HLw':Hid (Lw w0 B M ⟨wi,vk,va,vr,ak⟩ (S ++ Q.take k) (t :: Q.drop (k+1)) (outs vs vr Q k) G (.slice qa nq qc) (.slice fa (outs vs vr Q k).length fc) vg wr):=by
     have:=uh HLw
     rw [hvk,hdr] at this
     rw [← hdr,hlenQ,hnq] at this
     rw [hdr] at this
     exact hide this
    obtain ⟨g,o,cp,e9,_⟩:=(uh HLw').hq.first
    simp only [Value.slice.injEq] at e9
    obtain ⟨rfl,hnn9,rfl⟩:=e9
    clear hnn9
    have HJJ:Hid (∀ vq' vf' wz,Lw w0 B M ⟨wi,(vk+1) % 8,va,vr,ak⟩ (S ++ Q.take k ++ [t]) (Q.drop (k+1)) (outs vs vr Q k ++ [⟨1,vk,vr,t⟩]) G vq' vf' vg wz→Jw w0 B M ⟨wi,vs,va,vr,ak⟩ S Q G vg m (k+1) wz∧waits B wz<Q.length - k):=hide fun vq' vf' wz hz=>by
     refine ⟨⟨hk1,vq',vf',?_⟩,by rw [waits_eq hz,List.length_drop];omega⟩
     rw [htk,← List.append_assoc,outs_snoc,hgt,hvk,← hvk1]
     exact hz
    have CN:=hide fun vq' vf' wz (hz:Lw w0 B M ⟨wi,vk,va,vr,ak⟩ (S ++ Q.take k) (t :: Q.drop (k+1)) (outs vs vr Q k ++ [⟨1,vk,vr,t⟩]) G vq' vf' vg wz)=>iNumF hz ha hS7 hvs
    have hnf9:(outs vs vr Q k).length≤1000:=by rw [hlenF];omega
    clear hA hB0 HLw hv hm ha hwi hS hQ hdr htk hgt hvk1 hvs ht hlenS hlenQ hlenF hS7 hvk
    generalize outs vs vr Q k=F at *
    obtain ⟨nf,hnf⟩:∃ nf,F.length=nf:=⟨_,rfl⟩
    rw [hnf] at hnf9
    have HLw2:Hid (Lw w0 B M ⟨wi,vk,va,vr,ak⟩ (S ++ Q.take k) (t :: Q.drop (k+1)) F G (.slice (some ⟨g,o,none⟩) nq qc) (.slice fa nf fc) vg wr):=by rw [← hnf];exact HLw'
    replace HLw':=HLw2
    clear HLw2
    have HLw:=HLw'
    clear HLw'
    replace CC:=CK
    clear CK
    go_upto_region 0 with fail
    refine wp_region_held_drew (S:=fun z=>z.cell? ⟨B,6,none⟩=some (.map (some M))∧z.cell? ⟨B,0,none⟩=some (.int .i64 wi)∧z.cell? ⟨B,4,none⟩=some (.slice (some ⟨g,o,none⟩) nq qc)∧(Builtin.len_ #[102] 3 #[.map (some M)]).run Tryz.prog z=.ok (.int .i64 (ns:Int)) z) (by kernel_rfl) ⟨c6,c0,c4,hln'⟩ (fun hHeld=>?_)
    refine tk 0 (v:=?vpc0) rfl ?hypc0 ?_
    case hypc0=>intro w hSw;(try dsimp only at hSw);go_simp;try with_reducible rfl
    try simp only [Act.put,sA,sZ,sS,gA,gZ]
    refine tk 1 (v:=?vpc1) rfl ?hypc1 ?_
    case hypc1=>intro w hSw;(try dsimp only at hSw);go_simp;try with_reducible rfl
    try simp only [Act.put,sA,sZ,sS,gA,gZ,gS]
    refine tk 2 (v:=?vpc2) rfl ?hypc2 ?_
    case hypc2=>intro w hSw;(try dsimp only at hSw);go_simp;try with_reducible rfl
    try simp only [Act.put,sA,sZ,sS,gA,gZ,gS]
    refine tk 3 (v:=?vpc3) rfl ?hypc3 ?_
    case hypc3=>intro w hSw;(try dsimp only at hSw);go_simp;try with_reducible rfl
    try simp only [Act.put,sA,sZ,sS,gA,gZ,gS]
    refine tk 4 (v:=?vpc4) rfl ?hypc4 ?_
    case hypc4=>intro w hSw;(try dsimp only at hSw);go_simp;try with_reducible rfl
    try simp only [Act.put,sA,sZ,sS,gA,gZ,gS]
    refine tk 5 (v:=?vpc5) rfl ?hypc5 ?_
    case hypc5=>intro w hSw;(try dsimp only at hSw);go_simp;try with_reducible rfl
    try simp only [Act.put,sA,sZ,sS,gA,gZ,gS]
    refine tk 6 (v:=?vpc6) rfl ?hypc6 ?_
    case hypc6=>intro w hSw;(try dsimp only at hSw);go_simp;try with_reducible rfl
    try simp only [Act.put,sA,sZ,sS,gA,gZ,gS]
    refine tk 7 (v:=?vpc7) rfl ?hypc7 ?_
    case hypc7=>intro w hSw;(try dsimp only at hSw);go_simp;try with_reducible rfl
    try simp only [Act.put,sA,sZ,sS,gA,gZ,gS]
    refine tk 8 (v:=?vpc8) rfl ?hypc8 ?_
    case hypc8=>intro w hSw;(try dsimp only at hSw);go_simp;try with_reducible rfl
    try simp only [Act.put,sA,sZ,sS,gA,gZ,gS]
    refine tk 9 (v:=?vpc9) rfl ?hypc9 ?_
    case hypc9=>intro w hSw;(try dsimp only at hSw);go_simp;try with_reducible rfl
    try simp only [Act.put,sA,sZ,sS,gA,gZ,gS]
    refine tk 10 (v:=?vpc10) rfl ?hypc10 ?_
    case hypc10=>intro w hSw;(try dsimp only at hSw);go_simp;try with_reducible rfl
    try simp only [Act.put,sA,sZ,sS,gA,gZ,gS]
    refine tk 11 (v:=?vpc11) rfl ?hypc11 ?_
    case hypc11=>intro w hSw;(try dsimp only at hSw);go_simp;try with_reducible rfl
    try simp only [Act.put,sA,sZ,sS,gA,gZ,gS]
    refine tk 12 (v:=?vpc12) rfl ?hypc12 ?_
    case hypc12=>intro w hSw;(try dsimp only at hSw);go_simp;try with_reducible rfl
    try simp only [Act.put,sA,sZ,sS,gA,gZ,gS]
    refine tk 13 (v:=?vpc13) rfl ?hypc13 ?_
    case hypc13=>intro w hSw;(try dsimp only at hSw);go_simp;try with_reducible rfl
    try simp only [Act.put,sA,sZ,sS,gA,gZ,gS]
    refine tk 14 (v:=?vpc14) rfl ?hypc14 ?_
    case hypc14=>intro w hSw;(try dsimp only at hSw);go_simp;try with_reducible rfl
    try simp only [Act.put,sA,sZ,sS,gA,gZ,gS]
    refine tk 15 (v:=?vpc15) rfl ?hypc15 ?_
    case hypc15=>intro w hSw;(try dsimp only at hSw);go_simp;try with_reducible rfl
    try simp only [Act.put,sA,sZ,sS,gA,gZ,gS]
    refine tk 16 (v:=?vpc16) rfl ?hypc16 ?_
    case hypc16=>intro w hSw;(try dsimp only at hSw);go_simp;try with_reducible rfl
    try simp only [Act.put,sA,sZ,sS,gA,gZ,gS]
    refine tk 17 (v:=?vpc17) rfl ?hypc17 ?_
    case hypc17=>intro w hSw;(try dsimp only at hSw);go_simp;try with_reducible rfl
    try simp only [Act.put,sA,sZ,sS,gA,gZ,gS]
    refine tk 18 (v:=?vpc18) rfl ?hypc18 ?_
    case hypc18=>intro w hSw;(try dsimp only at hSw);go_simp;try with_reducible rfl
    try simp only [Act.put,sA,sZ,sS,gA,gZ,gS]
    refine tk 19 (v:=?vpc19) rfl ?hypc19 ?_
    case hypc19=>intro w hSw;(try dsimp only at hSw);go_simp;try with_reducible rfl
    try simp only [Act.put,sA,sZ,sS,gA,gZ,gS]
    refine wpAnyH_done (by kernel_rfl) ?_ _
    go_upto_region 1 with fail
    refine gen_world (fun z=>Lw w0 B M ⟨wi,vk,va,vr,ak⟩ (S ++ Q.take k) (t :: Q.drop (k+1)) F G (.slice (some ⟨g,o,none⟩) nq qc) (.slice fa nf fc) vg z) (uh HLw).drew ?_
    clear HLw c0 c1 c2 c3 c4 c5 c6 c7 c8 hln'
    intro wz hz
    have HLw:=hide hz
    clear hz
    go_cut [47] (fun _ wx=>∃ vq' vf',Lw w0 B M ⟨wi,vk,va,vr,ak⟩ (S ++ Q.take k) (t :: Q.drop (k+1)) (F ++ [⟨1,vk,vr,t⟩]) G vq' vf' vg wx)
    case first =>
     refine wp_region_held_drew (S:=fun q=>q.cell? ⟨B,1,none⟩=some (.int .i64 vk)∧q.cell? ⟨B,3,none⟩=some (.int .i64 vr)∧q.cell? ⟨B,4,none⟩=some (.slice (some ⟨g,o,none⟩) nq qc)∧q.cell? ⟨g,o,none⟩=some (.string t)) (by kernel_rfl) (fw_cells HLw.out.drew) (fun hHeld=>?_)
     have HZ:=hide (uh HLw).drew
     have HS0:=hide (fw_cells (uh HZ))
     have c7:=(row9l (uh HZ).row).2.2.2.2.2.2.2.1
     generalize wz.drew=y at HZ HS0 hHeld c7 ⊢
     refine tk 0 (v:=?vpt0) rfl ?hypt0 ?_
     case hypt0=>intro w hSw;(try dsimp only at hSw);go_simp;try with_reducible rfl
     try simp only [Act.put,sA,sZ,sS,gA,gZ]
     refine tk 1 (v:=?vpt1) rfl ?hypt1 ?_
     case hypt1=>intro w hSw;(try dsimp only at hSw);go_simp;try with_reducible rfl
     try simp only [Act.put,sA,sZ,sS,gA,gZ,gS]
     refine tk 2 (v:=?vpt2) rfl ?hypt2 ?_
     case hypt2=>intro w hSw;(try dsimp only at hSw);go_simp;try with_reducible rfl
     try simp only [Act.put,sA,sZ,sS,gA,gZ,gS]
     refine tk 3 (v:=?vpt3) rfl ?hypt3 ?_
     case hypt3=>intro w hSw;(try dsimp only at hSw);go_simp;try with_reducible rfl
     try simp only [Act.put,sA,sZ,sS,gA,gZ,gS]
     refine tk 5 (v:=?vpt5) rfl ?hypt5 ?_
     case hypt5=>intro w hSw;(try dsimp only at hSw);go_simp;try with_reducible rfl
     try simp only [Act.put,sA,sZ,sS,gA,gZ,gS]
     refine tk 6 (v:=?vpt6) rfl ?hypt6 ?_
     case hypt6=>intro w hSw;(try dsimp only at hSw);go_simp;try with_reducible rfl
     try simp only [Act.put,sA,sZ,sS,gA,gZ,gS]
     refine tk 7 (v:=?vpt7) rfl ?hypt7 ?_
     case hypt7=>intro w hSw;(try dsimp only at hSw);go_simp;try with_reducible rfl
     try simp only [Act.put,sA,sZ,sS,gA,gZ,gS]
     refine tk 8 (v:=?vpt8) rfl ?hypt8 ?_
     case hypt8=>intro w hSw;(try dsimp only at hSw);go_simp;try with_reducible rfl
     try simp only [Act.put,sA,sZ,sS,gA,gZ,gS]
     refine tk 9 (v:=?vpt9) rfl ?hypt9 ?_
     case hypt9=>intro w hSw;(try dsimp only at hSw);go_simp;try with_reducible rfl
     try simp only [Act.put,sA,sZ,sS,gA,gZ,gS]
     refine tk 10 (v:=?vpt10) rfl ?hypt10 ?_
     case hypt10=>intro w hSw;(try dsimp only at hSw);go_simp;try with_reducible rfl
     try simp only [Act.put,sA,sZ,sS,gA,gZ,gS]
     refine tk 11 (v:=?vpt11) rfl ?hypt11 ?_
     case hypt11=>intro w hSw;(try dsimp only at hSw);go_simp;try with_reducible rfl
     try simp only [Act.put,sA,sZ,sS,gA,gZ,gS]
     refine tk 12 (v:=?vpt12) rfl ?hypt12 ?_
     case hypt12=>intro w hSw;(try dsimp only at hSw);go_simp;try with_reducible rfl
     try simp only [Act.put,sA,sZ,sS,gA,gZ,gS]
     refine tk 13 (v:=?vpt13) rfl ?hypt13 ?_
     case hypt13=>intro w hSw;(try dsimp only at hSw);go_simp;try with_reducible rfl
     try simp only [Act.put,sA,sZ,sS,gA,gZ,gS]
     refine tk 14 (v:=?vpt14) rfl ?hypt14 ?_
     case hypt14=>intro w hSw;(try dsimp only at hSw);go_simp;try with_reducible rfl
     try simp only [Act.put,sA,sZ,sS,gA,gZ,gS]
     refine tk 15 (v:=?vpt15) rfl ?hypt15 ?_
     case hypt15=>intro w hSw;(try dsimp only at hSw);go_simp;try with_reducible rfl
     try simp only [Act.put,sA,sZ,sS,gA,gZ,gS]
     refine tk 16 (v:=?vpt16) rfl ?hypt16 ?_
     case hypt16=>intro w hSw;(try dsimp only at hSw);go_simp;try with_reducible rfl
     try simp only [Act.put,sA,sZ,sS,gA,gZ,gS]
     refine tk 17 (v:=?vpt17) rfl ?hypt17 ?_
     case hypt17=>intro w hSw;(try dsimp only at hSw);go_simp;try with_reducible rfl
     try simp only [Act.put,sA,sZ,sS,gA,gZ,gS]
     refine tk 18 (v:=?vpt18) rfl ?hypt18 ?_
     case hypt18=>intro w hSw;(try dsimp only at hSw);go_simp;try with_reducible rfl
     try simp only [Act.put,sA,sZ,sS,gA,gZ,gS]
     refine tk 19 (v:=?vpt19) rfl ?hypt19 ?_
     case hypt19=>intro w hSw;(try dsimp only at hSw);go_simp;try with_reducible rfl
     try simp only [Act.put,sA,sZ,sS,gA,gZ,gS]
     refine tk 20 (v:=?vpt20) rfl ?hypt20 ?_
     case hypt20=>intro w hSw;(try dsimp only at hSw);go_simp;try with_reducible rfl
     try simp only [Act.put,sA,sZ,sS,gA,gZ,gS]
     refine tk 21 (v:=?vpt21) rfl ?hypt21 ?_
     case hypt21=>intro w hSw;(try dsimp only at hSw);go_simp;try with_reducible rfl
     try simp only [Act.put,sA,sZ,sS,gA,gZ,gS]
     refine wpAnyH_ready (rs:=[4,22]) (by kernel_rfl) (by simp) ?_
     refine AllReadyH.cons rfl (fun K hK=>?_) (AllReadyH.cons rfl (fun K hK=>?_) (AllReadyH.nil))
     ·go_simp
      refine hK.out _ _ (uh HS0) (fun _=>?_)
      clear hK K
      try simp only [Act.put,sA,sZ,sS,gA,gZ,gS]
      refine r1 22 rfl (fun K hK=>?_)
      go_simp
      refine (uh CC _).mono ?_
      rintro e z1 ⟨rfl,hb1⟩
      have hl1:=(uh HZ).step hb1
      have d7:=(row9l hl1.row).2.2.2.2.2.2.2.1
      have hBl:B<z1.heap.size:=(Array.getElem?_eq_some_iff.1 hl1.row).1
      have hBn:¬ (B=z1.heap.size):=by omega
      have hbA:Below z1.heap.size z1 (z1.alloc (.cells #[.int .i64 1,.int .i64 vk,.int .i64 vr,.string t] 96)):=(Below.refl _ _).alloc (Nat.le_refl _) _
      have hsz1:=fw_cells hl1
      have HS1:=hide hsz1
      have HS2:=hide (fw_cells (hl1.step hbA))
      have d7':=(row9l (hl1.step hbA).row).2.2.2.2.2.2.2.1
      have hof9:=(hl1.step hbA).of
      rw [hnf] at hof9
      have HOF:=hide hof9
      clear hof9
      have HZ1:=hide (And.intro (hl1.step hbA) (heap_alloc_new z1 (.cells #[.int .i64 1,.int .i64 vk,.int .i64 vr,.string t] 96)))
      clear hb1 hl1 hbA hsz1
      go_wp2_with fail
      refine hK.out _ _ (uh HS1) (fun _=>?_)
      clear hK K
      try simp only [Act.put,sA,sZ,sS,gA,gZ,gS]
      refine tk 23 (v:=?vu123) rfl ?hyu123 ?_
      case hyu123=>intro w hSw;(try dsimp only at hSw);go_simp;try with_reducible rfl
      try simp only [Act.put,sA,sZ,sS,gA,gZ,gS]
      refine r1 24 rfl (fun K hK=>?_)
      go_simp
      refine hK.out _ _ (uh HS2) (fun _=>?_)
      clear hK K
      try simp only [Act.put,sA,sZ,sS,gA,gZ,gS]
      refine r1 25 rfl (fun K hK=>?_)
      refine step_append_nb (z1.alloc (.cells #[.int .i64 1,.int .i64 vk,.int .i64 vr,.string t] 96)) (by rfl) _ _ (by rfl) w0.heap.size (.slice fa nf fc) F nf hnf 1 vk vr t z1.heap.size (by rfl) (by rfl) (uh HOF) (uh HZ1).2 (by omega) (uh HZ1).1.lo.size ?_
      rintro v4 z2 ho4 hg4
      obtain ⟨a4,c4',rfl⟩:=own_form ho4
      obtain ⟨g7,f7,hsz2⟩:=fw_grow (uh HZ1).1 hg4
      have HS3:=hide hsz2
      have HF:=hide ((uh HZ1).1.putF hg4 (F':=F ++ [⟨1,vk,vr,t⟩]) (by rw [List.length_append,hnf];exact ho4))
      have HS4:=hide (fw_cells (uh HF))
      clear ho4 hg4 hsz2
      refine hK.out _ _ (uh HS3) (fun _=>?_)
      clear hK K
      try simp only [Act.put,sA,sZ,sS,gA,gZ,gS]
      refine tk 26 (v:=?vu226) rfl ?hyu226 ?_
      case hyu226=>intro w hSw;(try dsimp only at hSw);go_simp;try with_reducible rfl
      try simp only [Act.put,sA,sZ,sS,gA,gZ,gS]
      refine tk 27 (v:=?vu227) rfl ?hyu227 ?_
      case hyu227=>intro w hSw;(try dsimp only at hSw);go_simp;try with_reducible rfl
      try simp only [Act.put,sA,sZ,sS,gA,gZ,gS]
      refine r1 28 rfl (fun K hK=>?_)
      go_simp
      refine hK.out _ _ (uh HS4) (fun _=>?_)
      clear hK K
      try simp only [Act.put,List.getElem_toArray,List.getElem_cons_zero,List.getElem_cons_succ]
      refine wpAnyH_done (by kernel_rfl) ?_ _
      go_wp2_with fail
      go_meet
      exact ⟨_,_,uh HF⟩
     ·go_simp
      refine (uh CC _).mono ?_
      rintro e z1 ⟨rfl,hb1⟩
      have hl1:=(uh HZ).step hb1
      have d7:=(row9l hl1.row).2.2.2.2.2.2.2.1
      have hBl:B<z1.heap.size:=(Array.getElem?_eq_some_iff.1 hl1.row).1
      have hBn:¬ (B=z1.heap.size):=by omega
      have hbA:Below z1.heap.size z1 (z1.alloc (.cells #[.int .i64 1,.int .i64 vk,.int .i64 vr,.string t] 96)):=(Below.refl _ _).alloc (Nat.le_refl _) _
      have hsz1:=fw_cells hl1
      have HS1:=hide hsz1
      have HS2:=hide (fw_cells (hl1.step hbA))
      have d7':=(row9l (hl1.step hbA).row).2.2.2.2.2.2.2.1
      have hof9:=(hl1.step hbA).of
      rw [hnf] at hof9
      have HOF:=hide hof9
      clear hof9
      have HZ1:=hide (And.intro (hl1.step hbA) (heap_alloc_new z1 (.cells #[.int .i64 1,.int .i64 vk,.int .i64 vr,.string t] 96)))
      clear hb1 hl1 hbA hsz1
      go_wp2_with fail
      refine hK.out _ _ (uh HS1) (fun _=>?_)
      clear hK K
      try simp only [Act.put,sA,sZ,sS,gA,gZ,gS]
      refine tk 23 (v:=?vu323) rfl ?hyu323 ?_
      case hyu323=>intro w hSw;(try dsimp only at hSw);go_simp;try with_reducible rfl
      try simp only [Act.put,sA,sZ,sS,gA,gZ,gS]
      refine wpAnyH_ready (rs:=[4,24]) (by kernel_rfl) (by simp) ?_
      refine AllReadyH.cons rfl (fun K hK=>?_) (AllReadyH.cons rfl (fun K hK=>?_) (AllReadyH.nil))
      ·go_simp
       refine hK.out _ _ (uh HS1) (fun _=>?_)
       clear hK K
       try simp only [Act.put,sA,sZ,sS,gA,gZ,gS]
       refine r1 24 rfl (fun K hK=>?_)
       go_simp
       refine hK.out _ _ (uh HS2) (fun _=>?_)
       clear hK K
       try simp only [Act.put,sA,sZ,sS,gA,gZ,gS]
       refine r1 25 rfl (fun K hK=>?_)
       refine step_append_nb (z1.alloc (.cells #[.int .i64 1,.int .i64 vk,.int .i64 vr,.string t] 96)) (by rfl) _ _ (by rfl) w0.heap.size (.slice fa nf fc) F nf hnf 1 vk vr t z1.heap.size (by rfl) (by rfl) (uh HOF) (uh HZ1).2 (by omega) (uh HZ1).1.lo.size ?_
       rintro v4 z2 ho4 hg4
       obtain ⟨a4,c4',rfl⟩:=own_form ho4
       obtain ⟨g7,f7,hsz2⟩:=fw_grow (uh HZ1).1 hg4
       have HS3:=hide hsz2
       have HF:=hide ((uh HZ1).1.putF hg4 (F':=F ++ [⟨1,vk,vr,t⟩]) (by rw [List.length_append,hnf];exact ho4))
       have HS4:=hide (fw_cells (uh HF))
       clear ho4 hg4 hsz2
       refine hK.out _ _ (uh HS3) (fun _=>?_)
       clear hK K
       try simp only [Act.put,sA,sZ,sS,gA,gZ,gS]
       refine tk 26 (v:=?vu426) rfl ?hyu426 ?_
       case hyu426=>intro w hSw;(try dsimp only at hSw);go_simp;try with_reducible rfl
       try simp only [Act.put,sA,sZ,sS,gA,gZ,gS]
       refine tk 27 (v:=?vu427) rfl ?hyu427 ?_
       case hyu427=>intro w hSw;(try dsimp only at hSw);go_simp;try with_reducible rfl
       try simp only [Act.put,sA,sZ,sS,gA,gZ,gS]
       refine r1 28 rfl (fun K hK=>?_)
       go_simp
       refine hK.out _ _ (uh HS4) (fun _=>?_)
       clear hK K
       try simp only [Act.put,List.getElem_toArray,List.getElem_cons_zero,List.getElem_cons_succ]
       refine wpAnyH_done (by kernel_rfl) ?_ _
       go_wp2_with fail
       go_meet
       exact ⟨_,_,uh HF⟩
      ·go_simp
       refine hK.out _ _ (uh HS2) (fun _=>?_)
       clear hK K
       try simp only [Act.put,sA,sZ,sS,gA,gZ,gS]
       refine r1 4 rfl (fun K hK=>?_)
       go_simp
       refine hK.out _ _ (uh HS2) (fun _=>?_)
       clear hK K
       try simp only [Act.put,sA,sZ,sS,gA,gZ,gS]
       refine r1 25 rfl (fun K hK=>?_)
       refine step_append_nb (z1.alloc (.cells #[.int .i64 1,.int .i64 vk,.int .i64 vr,.string t] 96)) (by rfl) _ _ (by rfl) w0.heap.size (.slice fa nf fc) F nf hnf 1 vk vr t z1.heap.size (by rfl) (by rfl) (uh HOF) (uh HZ1).2 (by omega) (uh HZ1).1.lo.size ?_
       rintro v4 z2 ho4 hg4
       obtain ⟨a4,c4',rfl⟩:=own_form ho4
       obtain ⟨g7,f7,hsz2⟩:=fw_grow (uh HZ1).1 hg4
       have HS3:=hide hsz2
       have HF:=hide ((uh HZ1).1.putF hg4 (F':=F ++ [⟨1,vk,vr,t⟩]) (by rw [List.length_append,hnf];exact ho4))
       have HS4:=hide (fw_cells (uh HF))
       clear ho4 hg4 hsz2
       refine hK.out _ _ (uh HS3) (fun _=>?_)
       clear hK K
       try simp only [Act.put,sA,sZ,sS,gA,gZ,gS]
       refine tk 26 (v:=?vu526) rfl ?hyu526 ?_
       case hyu526=>intro w hSw;(try dsimp only at hSw);go_simp;try with_reducible rfl
       try simp only [Act.put,sA,sZ,sS,gA,gZ,gS]
       refine tk 27 (v:=?vu527) rfl ?hyu527 ?_
       case hyu527=>intro w hSw;(try dsimp only at hSw);go_simp;try with_reducible rfl
       try simp only [Act.put,sA,sZ,sS,gA,gZ,gS]
       refine r1 28 rfl (fun K hK=>?_)
       go_simp
       refine hK.out _ _ (uh HS4) (fun _=>?_)
       clear hK K
       try simp only [Act.put,List.getElem_toArray,List.getElem_cons_zero,List.getElem_cons_succ]
       refine wpAnyH_done (by kernel_rfl) ?_ _
       go_wp2_with fail
       go_meet
       exact ⟨_,_,uh HF⟩
    case rest =>
     obtain ⟨vq5,vf5,hL5⟩:=hcut
     have C5:=hide (uh CN _ _ _ hL5)
     clear hL5 HLw CC
     go_wp2_with fail
     refine (uh C5).mono ?_
     rintro e w6 ⟨rfl,⟨vq6,hL6⟩,_,_⟩
     have hJ6:=uh HJJ _ _ _ hL6
     have HJ6:=hide hJ6
     clear hJ6 hL6 C5 CN HJJ
     go_wp2_with fail
     go_step3
     refine Eq.mpr (jumps_goto 0) ?_
     exact ⟨⟨rfl,_,_,_,_,_,_,_,_,_,_,_,_,_,_,_,_,_,_,_,_,_,_,_,_,_,_,_,_,_,_,_,_,_,_,_,_,_,_,_,_,_,_,_,_,_,_,_,_,_,_,_,rfl,k+1,(uh HJ6).1⟩,by rw [List.length_drop];exact (uh HJ6).2⟩
 ·obtain ⟨hkm,vq',vf,hL⟩:=uh H0
  obtain ⟨k,hk0⟩:∃ k:Nat,k=0:=⟨_,rfl⟩
  rw [← hk0] at hL hkm
  dsimp only at hL
  clear H0 hk0 vq
  obtain ⟨wr,hwr⟩:∃ wr,wr=q:=⟨_,rfl⟩
  rw [← hwr] at hL ⊢
  clear hwr q
  obtain ⟨hv,hm⟩:=uh HV
  obtain ⟨ha,hwi,hS,hQ⟩:=uh HU
  have hkQ:k≤Q.length:=by omega
  have hlenS:(S ++ Q.take k).length=S.length+k:=by rw [List.length_append,List.length_take];omega
  have hlenF:=outs_len vs vr Q k
  have hlenQ:(Q.drop k).length=Q.length - k:=List.length_drop
  have hln':=hL.drew.mp.len 3
  have hS7:(S ++ Q.take k).length≤7:=by rw [hlenS];omega
  rw [hlenS] at hln'
  obtain ⟨qa,qc,rfl⟩:=hL.hq.form
  obtain ⟨fa,fc,rfl⟩:=own_form hL.of
  obtain ⟨c0,c1,c2,c3,c4,c5,c6,c7,c8⟩:=row9l hL.drew.row
  obtain ⟨nq,hnq⟩:∃ nq,Q.length - k=nq:=⟨_,rfl⟩
  obtain ⟨ns,hns⟩:∃ ns,S.length+k=ns:=⟨_,rfl⟩
  rw [hlenQ,hnq] at c4
  rw [hns] at hln'
  have HLw:=hide hL
  clear hL
  by_cases hA:(ns:Int)=wi
  ·have hkm2:k=m:=by omega
   have d1:((ns:Int) == wi)=true:=beq_iff_eq.2 hA
   subst hkm2
   clear hA hv hm ha hwi hS hQ
   go_wp2_with fail
   try go_step3
   go_upto_region 0 with fail
   refine wp_region_held_drew (S:=fun z=>z.cell? ⟨B,6,none⟩=some (.map (some M))∧z.cell? ⟨B,0,none⟩=some (.int .i64 wi)∧z.cell? ⟨B,4,none⟩=some (.slice qa nq qc)∧(Builtin.len_ #[102] 3 #[.map (some M)]).run Tryz.prog z=.ok (.int .i64 (ns:Int)) z) (by kernel_rfl) ⟨c6,c0,c4,hln'⟩ (fun hHeld=>?_)
   refine tk 0 (v:=?vfa0) rfl ?hyfa0 ?_
   case hyfa0=>intro w hSw;(try dsimp only at hSw);go_simp;try with_reducible rfl
   try simp only [Act.put,sA,sZ,sS,gA,gZ]
   refine tk 1 (v:=?vfa1) rfl ?hyfa1 ?_
   case hyfa1=>intro w hSw;(try dsimp only at hSw);go_simp;try with_reducible rfl
   try simp only [Act.put,sA,sZ,sS,gA,gZ,gS]
   refine tk 2 (v:=?vfa2) rfl ?hyfa2 ?_
   case hyfa2=>intro w hSw;(try dsimp only at hSw);go_simp;try with_reducible rfl
   try simp only [Act.put,sA,sZ,sS,gA,gZ,gS]
   refine tk 3 (v:=?vfa3) rfl ?hyfa3 ?_
   case hyfa3=>intro w hSw;(try dsimp only at hSw);go_simp;try with_reducible rfl
   try simp only [Act.put,sA,sZ,sS,gA,gZ,gS]
   refine tk 4 (v:=?vfa4) rfl ?hyfa4 ?_
   case hyfa4=>intro w hSw;(try dsimp only at hSw);go_simp;try with_reducible rfl
   try simp only [Act.put,sA,sZ,sS,gA,gZ,gS]
   refine tk 5 (v:=?vfa5) rfl ?hyfa5 ?_
   case hyfa5=>intro w hSw;(try dsimp only at hSw);go_simp;try with_reducible rfl
   try simp only [Act.put,sA,sZ,sS,gA,gZ,gS]
   refine tk 6 (v:=?vfa6) rfl ?hyfa6 ?_
   case hyfa6=>intro w hSw;(try dsimp only at hSw);go_simp;try with_reducible rfl
   try simp only [Act.put,sA,sZ,sS,gA,gZ,gS]
   refine tk 7 (v:=?vfa7) rfl ?hyfa7 ?_
   case hyfa7=>intro w hSw;(try dsimp only at hSw);go_simp;try with_reducible rfl
   try simp only [Act.put,sA,sZ,sS,gA,gZ,gS]
   refine tk 8 (v:=?vfa8) rfl ?hyfa8 ?_
   case hyfa8=>intro w hSw;(try dsimp only at hSw);go_simp;try with_reducible rfl
   try simp only [Act.put,sA,sZ,sS,gA,gZ,gS]
   refine tk 9 (v:=?vfa9) rfl ?hyfa9 ?_
   case hyfa9=>intro w hSw;(try dsimp only at hSw);go_simp;try with_reducible rfl
   try simp only [Act.put,sA,sZ,sS,gA,gZ,gS]
   refine tk 10 (v:=?vfa10) rfl ?hyfa10 ?_
   case hyfa10=>intro w hSw;(try dsimp only at hSw);go_simp;try with_reducible rfl
   try simp only [Act.put,sA,sZ,sS,gA,gZ,gS]
   refine tk 11 (v:=?vfa11) rfl ?hyfa11 ?_
   case hyfa11=>intro w hSw;(try dsimp only at hSw);go_simp;try with_reducible rfl
   try simp only [Act.put,sA,sZ,sS,gA,gZ,gS]
   refine wpAnyH_take (i:=12) (v:=undef) rfl (by kernel_rfl) (by kernel_rfl) (by kernel_rfl) (fun _ _ _ h=>h) (Or.inr ⟨by rfl,rfl⟩) (by assumption) ?_
   try simp only [Act.put,sA,sZ,sS,gA,gZ,gS]
   refine wpAnyH_take (i:=13) (v:=undef) rfl (by kernel_rfl) (by kernel_rfl) (by kernel_rfl) (fun _ _ _ h=>h) (Or.inr ⟨by rfl,rfl⟩) (by assumption) ?_
   try simp only [Act.put,sA,sZ,sS,gA,gZ,gS]
   refine wpAnyH_take (i:=14) (v:=undef) rfl (by kernel_rfl) (by kernel_rfl) (by kernel_rfl) (fun _ _ _ h=>h) (Or.inr ⟨by rfl,rfl⟩) (by assumption) ?_
   try simp only [Act.put,sA,sZ,sS,gA,gZ,gS]
   refine wpAnyH_take (i:=15) (v:=undef) rfl (by kernel_rfl) (by kernel_rfl) (by kernel_rfl) (fun _ _ _ h=>h) (Or.inr ⟨by rfl,rfl⟩) (by assumption) ?_
   try simp only [Act.put,sA,sZ,sS,gA,gZ,gS]
   refine wpAnyH_take (i:=16) (v:=undef) rfl (by kernel_rfl) (by kernel_rfl) (by kernel_rfl) (fun _ _ _ h=>h) (Or.inr ⟨by rfl,rfl⟩) (by assumption) ?_
   try simp only [Act.put,sA,sZ,sS,gA,gZ,gS]
   refine wpAnyH_take (i:=17) (v:=undef) rfl (by kernel_rfl) (by kernel_rfl) (by kernel_rfl) (fun _ _ _ h=>h) (Or.inr ⟨by rfl,rfl⟩) (by assumption) ?_
   try simp only [Act.put,sA,sZ,sS,gA,gZ,gS]
   refine wpAnyH_take (i:=18) (v:=undef) rfl (by kernel_rfl) (by kernel_rfl) (by kernel_rfl) (fun _ _ _ h=>h) (Or.inr ⟨by rfl,rfl⟩) (by assumption) ?_
   try simp only [Act.put,sA,sZ,sS,gA,gZ,gS]
   refine tk 19 (v:=?vfa19) rfl ?hyfa19 ?_
   case hyfa19=>intro w hSw;(try dsimp only at hSw);go_simp;try with_reducible rfl
   try simp only [Act.put,sA,sZ,sS,gA,gZ,gS]
   refine wpAnyH_done (by kernel_rfl) ?_ _
   go_wp2_with fail
   rw [jumps_ret]
   refine bodyPost_ret (v:=.tuple #[]) ?_ ?_ ?_
   ·exact results_none rfl _ _ _
   ·rfl
   ·exact ⟨rfl,_,_,(uh HLw).drew⟩
  ·have d1:((ns:Int) == wi)=false:=beq_eq_false_iff_ne.2 hA
   by_cases hB0:nq=0
   ·have hkm2:k=m:=by omega
    subst hkm2
    have d2:((nq:Int) == 0)=true:=beq_iff_eq.2 (by omega)
    clear hA hB0 hv hm ha hwi hS hQ
    go_wp2_with fail
    try go_step3
    go_upto_region 0 with fail
    refine wp_region_held_drew (S:=fun z=>z.cell? ⟨B,6,none⟩=some (.map (some M))∧z.cell? ⟨B,0,none⟩=some (.int .i64 wi)∧z.cell? ⟨B,4,none⟩=some (.slice qa nq qc)∧(Builtin.len_ #[102] 3 #[.map (some M)]).run Tryz.prog z=.ok (.int .i64 (ns:Int)) z) (by kernel_rfl) ⟨c6,c0,c4,hln'⟩ (fun hHeld=>?_)
    refine tk 0 (v:=?vfb0) rfl ?hyfb0 ?_
    case hyfb0=>intro w hSw;(try dsimp only at hSw);go_simp;try with_reducible rfl
    try simp only [Act.put,sA,sZ,sS,gA,gZ]
    refine tk 1 (v:=?vfb1) rfl ?hyfb1 ?_
    case hyfb1=>intro w hSw;(try dsimp only at hSw);go_simp;try with_reducible rfl
    try simp only [Act.put,sA,sZ,sS,gA,gZ,gS]
    refine tk 2 (v:=?vfb2) rfl ?hyfb2 ?_
    case hyfb2=>intro w hSw;(try dsimp only at hSw);go_simp;try with_reducible rfl
    try simp only [Act.put,sA,sZ,sS,gA,gZ,gS]
    refine tk 3 (v:=?vfb3) rfl ?hyfb3 ?_
    case hyfb3=>intro w hSw;(try dsimp only at hSw);go_simp;try with_reducible rfl
    try simp only [Act.put,sA,sZ,sS,gA,gZ,gS]
    refine tk 4 (v:=?vfb4) rfl ?hyfb4 ?_
    case hyfb4=>intro w hSw;(try dsimp only at hSw);go_simp;try with_reducible rfl
    try simp only [Act.put,sA,sZ,sS,gA,gZ,gS]
    refine tk 5 (v:=?vfb5) rfl ?hyfb5 ?_
    case hyfb5=>intro w hSw;(try dsimp only at hSw);go_simp;try with_reducible rfl
    try simp only [Act.put,sA,sZ,sS,gA,gZ,gS]
    refine tk 6 (v:=?vfb6) rfl ?hyfb6 ?_
    case hyfb6=>intro w hSw;(try dsimp only at hSw);go_simp;try with_reducible rfl
    try simp only [Act.put,sA,sZ,sS,gA,gZ,gS]
    refine tk 7 (v:=?vfb7) rfl ?hyfb7 ?_
    case hyfb7=>intro w hSw;(try dsimp only at hSw);go_simp;try with_reducible rfl
    try simp only [Act.put,sA,sZ,sS,gA,gZ,gS]
    refine tk 8 (v:=?vfb8) rfl ?hyfb8 ?_
    case hyfb8=>intro w hSw;(try dsimp only at hSw);go_simp;try with_reducible rfl
    try simp only [Act.put,sA,sZ,sS,gA,gZ,gS]
    refine tk 9 (v:=?vfb9) rfl ?hyfb9 ?_
    case hyfb9=>intro w hSw;(try dsimp only at hSw);go_simp;try with_reducible rfl
    try simp only [Act.put,sA,sZ,sS,gA,gZ,gS]
    refine tk 10 (v:=?vfb10) rfl ?hyfb10 ?_
    case hyfb10=>intro w hSw;(try dsimp only at hSw);go_simp;try with_reducible rfl
    try simp only [Act.put,sA,sZ,sS,gA,gZ,gS]
    refine tk 11 (v:=?vfb11) rfl ?hyfb11 ?_
    case hyfb11=>intro w hSw;(try dsimp only at hSw);go_simp;try with_reducible rfl
    try simp only [Act.put,sA,sZ,sS,gA,gZ,gS]
    refine tk 12 (v:=?vfb12) rfl ?hyfb12 ?_
    case hyfb12=>intro w hSw;(try dsimp only at hSw);go_simp;try with_reducible rfl
    try simp only [Act.put,sA,sZ,sS,gA,gZ,gS]
    refine tk 13 (v:=?vfb13) rfl ?hyfb13 ?_
    case hyfb13=>intro w hSw;(try dsimp only at hSw);go_simp;try with_reducible rfl
    try simp only [Act.put,sA,sZ,sS,gA,gZ,gS]
    refine tk 14 (v:=?vfb14) rfl ?hyfb14 ?_
    case hyfb14=>intro w hSw;(try dsimp only at hSw);go_simp;try with_reducible rfl
    try simp only [Act.put,sA,sZ,sS,gA,gZ,gS]
    refine tk 15 (v:=?vfb15) rfl ?hyfb15 ?_
    case hyfb15=>intro w hSw;(try dsimp only at hSw);go_simp;try with_reducible rfl
    try simp only [Act.put,sA,sZ,sS,gA,gZ,gS]
    refine tk 16 (v:=?vfb16) rfl ?hyfb16 ?_
    case hyfb16=>intro w hSw;(try dsimp only at hSw);go_simp;try with_reducible rfl
    try simp only [Act.put,sA,sZ,sS,gA,gZ,gS]
    refine tk 17 (v:=?vfb17) rfl ?hyfb17 ?_
    case hyfb17=>intro w hSw;(try dsimp only at hSw);go_simp;try with_reducible rfl
    try simp only [Act.put,sA,sZ,sS,gA,gZ,gS]
    refine tk 18 (v:=?vfb18) rfl ?hyfb18 ?_
    case hyfb18=>intro w hSw;(try dsimp only at hSw);go_simp;try with_reducible rfl
    try simp only [Act.put,sA,sZ,sS,gA,gZ,gS]
    refine tk 19 (v:=?vfb19) rfl ?hyfb19 ?_
    case hyfb19=>intro w hSw;(try dsimp only at hSw);go_simp;try with_reducible rfl
    try simp only [Act.put,sA,sZ,sS,gA,gZ,gS]
    refine wpAnyH_done (by kernel_rfl) ?_ _
    go_wp2_with fail
    rw [jumps_ret]
    refine bodyPost_ret (v:=.tuple #[]) ?_ ?_ ?_
    ·exact results_none rfl _ _ _
    ·rfl
    ·exact ⟨rfl,_,_,(uh HLw).drew⟩
   ·have d2:((nq:Int) == 0)=false:=beq_eq_false_iff_ne.2 (by omega)
    have hk1:k+1≤m:=by omega
    have hnq0:0<nq:=by omega
    have hkq2:k<Q.length:=by omega
    obtain ⟨t,ht⟩:∃ t,Q[k]'hkq2=t:=⟨_,rfl⟩
    have hdr:Q.drop k=t :: Q.drop (k+1):=by rw [List.drop_eq_getElem_cons hkq2,ht]
    have htk:Q.take (k+1)=Q.take k ++ [t]:=by rw [List.take_succ_eq_append_getElem hkq2,ht]
    have hgt:Q.getD k ⟨#[]⟩=t:=by rw [List.getD,List.getElem?_eq_getElem hkq2,ht];rfl
    have CK:=hide fun v=>uh CC t v (uh HT t (by rw [← ht];exact List.getElem_mem _))
    obtain ⟨vk,hvk⟩:∃ vk,(vs+(k:Int)) % 8=vk:=⟨_,rfl⟩
    have hvk1:(vk+1) % 8=(vs+((k+1:Nat):Int)) % 8:=by omega
    have hvs:vk=(va+((S ++ Q.take k).length:Nat)) % 8:=by rw [hlenS];omega
    have HLw':Hid (Lw w0 B M ⟨wi,vk,va,vr,ak⟩ (S ++ Q.take k) (t :: Q.drop (k+1)) (outs vs vr Q k) G (.slice qa nq qc) (.slice fa (outs vs vr Q k).length fc) vg wr):=by
     have:=uh HLw
     rw [hvk,hdr] at this
     rw [← hdr,hlenQ,hnq] at this
     rw [hdr] at this
     exact hide this
    obtain ⟨g,o,cp,e9,_⟩:=(uh HLw').hq.first
    simp only [Value.slice.injEq] at e9
    obtain ⟨rfl,hnn9,rfl⟩:=e9
    clear hnn9
    have HJJ:Hid (∀ vq' vf' wz,Lw w0 B M ⟨wi,(vk+1) % 8,va,vr,ak⟩ (S ++ Q.take k ++ [t]) (Q.drop (k+1)) (outs vs vr Q k ++ [⟨1,vk,vr,t⟩]) G vq' vf' vg wz→Jw w0 B M ⟨wi,vs,va,vr,ak⟩ S Q G vg m (k+1) wz∧waits B wz<Q.length - k):=hide fun vq' vf' wz hz=>by
     refine ⟨⟨hk1,vq',vf',?_⟩,by rw [waits_eq hz,List.length_drop];omega⟩
     rw [htk,← List.append_assoc,outs_snoc,hgt,hvk,← hvk1]
     exact hz
    have CN:=hide fun vq' vf' wz (hz:Lw w0 B M ⟨wi,vk,va,vr,ak⟩ (S ++ Q.take k) (t :: Q.drop (k+1)) (outs vs vr Q k ++ [⟨1,vk,vr,t⟩]) G vq' vf' vg wz)=>iNumF hz ha hS7 hvs
    have hnf9:(outs vs vr Q k).length≤1000:=by rw [hlenF];omega
    clear hA hB0 HLw hv hm ha hwi hS hQ hdr htk hgt hvk1 hvs ht hlenS hlenQ hlenF hS7 hvk
    generalize outs vs vr Q k=F at *
    obtain ⟨nf,hnf⟩:∃ nf,F.length=nf:=⟨_,rfl⟩
    rw [hnf] at hnf9
    have HLw2:Hid (Lw w0 B M ⟨wi,vk,va,vr,ak⟩ (S ++ Q.take k) (t :: Q.drop (k+1)) F G (.slice (some ⟨g,o,none⟩) nq qc) (.slice fa nf fc) vg wr):=by rw [← hnf];exact HLw'
    replace HLw':=HLw2
    clear HLw2
    have HLw:=HLw'
    clear HLw'
    replace CC:=CK
    clear CK
    go_wp2_with fail
    try go_step3
    go_upto_region 0 with fail
    refine wp_region_held_drew (S:=fun z=>z.cell? ⟨B,6,none⟩=some (.map (some M))∧z.cell? ⟨B,0,none⟩=some (.int .i64 wi)∧z.cell? ⟨B,4,none⟩=some (.slice (some ⟨g,o,none⟩) nq qc)∧(Builtin.len_ #[102] 3 #[.map (some M)]).run Tryz.prog z=.ok (.int .i64 (ns:Int)) z) (by kernel_rfl) ⟨c6,c0,c4,hln'⟩ (fun hHeld=>?_)
    refine tk 0 (v:=?vfc0) rfl ?hyfc0 ?_
    case hyfc0=>intro w hSw;(try dsimp only at hSw);go_simp;try with_reducible rfl
    try simp only [Act.put,sA,sZ,sS,gA,gZ]
    refine tk 1 (v:=?vfc1) rfl ?hyfc1 ?_
    case hyfc1=>intro w hSw;(try dsimp only at hSw);go_simp;try with_reducible rfl
    try simp only [Act.put,sA,sZ,sS,gA,gZ,gS]
    refine tk 2 (v:=?vfc2) rfl ?hyfc2 ?_
    case hyfc2=>intro w hSw;(try dsimp only at hSw);go_simp;try with_reducible rfl
    try simp only [Act.put,sA,sZ,sS,gA,gZ,gS]
    refine tk 3 (v:=?vfc3) rfl ?hyfc3 ?_
    case hyfc3=>intro w hSw;(try dsimp only at hSw);go_simp;try with_reducible rfl
    try simp only [Act.put,sA,sZ,sS,gA,gZ,gS]
    refine tk 4 (v:=?vfc4) rfl ?hyfc4 ?_
    case hyfc4=>intro w hSw;(try dsimp only at hSw);go_simp;try with_reducible rfl
    try simp only [Act.put,sA,sZ,sS,gA,gZ,gS]
    refine tk 5 (v:=?vfc5) rfl ?hyfc5 ?_
    case hyfc5=>intro w hSw;(try dsimp only at hSw);go_simp;try with_reducible rfl
    try simp only [Act.put,sA,sZ,sS,gA,gZ,gS]
    refine tk 6 (v:=?vfc6) rfl ?hyfc6 ?_
    case hyfc6=>intro w hSw;(try dsimp only at hSw);go_simp;try with_reducible rfl
    try simp only [Act.put,sA,sZ,sS,gA,gZ,gS]
    refine tk 7 (v:=?vfc7) rfl ?hyfc7 ?_
    case hyfc7=>intro w hSw;(try dsimp only at hSw);go_simp;try with_reducible rfl
    try simp only [Act.put,sA,sZ,sS,gA,gZ,gS]
    refine tk 8 (v:=?vfc8) rfl ?hyfc8 ?_
    case hyfc8=>intro w hSw;(try dsimp only at hSw);go_simp;try with_reducible rfl
    try simp only [Act.put,sA,sZ,sS,gA,gZ,gS]
    refine tk 9 (v:=?vfc9) rfl ?hyfc9 ?_
    case hyfc9=>intro w hSw;(try dsimp only at hSw);go_simp;try with_reducible rfl
    try simp only [Act.put,sA,sZ,sS,gA,gZ,gS]
    refine tk 10 (v:=?vfc10) rfl ?hyfc10 ?_
    case hyfc10=>intro w hSw;(try dsimp only at hSw);go_simp;try with_reducible rfl
    try simp only [Act.put,sA,sZ,sS,gA,gZ,gS]
    refine tk 11 (v:=?vfc11) rfl ?hyfc11 ?_
    case hyfc11=>intro w hSw;(try dsimp only at hSw);go_simp;try with_reducible rfl
    try simp only [Act.put,sA,sZ,sS,gA,gZ,gS]
    refine tk 12 (v:=?vfc12) rfl ?hyfc12 ?_
    case hyfc12=>intro w hSw;(try dsimp only at hSw);go_simp;try with_reducible rfl
    try simp only [Act.put,sA,sZ,sS,gA,gZ,gS]
    refine tk 13 (v:=?vfc13) rfl ?hyfc13 ?_
    case hyfc13=>intro w hSw;(try dsimp only at hSw);go_simp;try with_reducible rfl
    try simp only [Act.put,sA,sZ,sS,gA,gZ,gS]
    refine tk 14 (v:=?vfc14) rfl ?hyfc14 ?_
    case hyfc14=>intro w hSw;(try dsimp only at hSw);go_simp;try with_reducible rfl
    try simp only [Act.put,sA,sZ,sS,gA,gZ,gS]
    refine tk 15 (v:=?vfc15) rfl ?hyfc15 ?_
    case hyfc15=>intro w hSw;(try dsimp only at hSw);go_simp;try with_reducible rfl
    try simp only [Act.put,sA,sZ,sS,gA,gZ,gS]
    refine tk 16 (v:=?vfc16) rfl ?hyfc16 ?_
    case hyfc16=>intro w hSw;(try dsimp only at hSw);go_simp;try with_reducible rfl
    try simp only [Act.put,sA,sZ,sS,gA,gZ,gS]
    refine tk 17 (v:=?vfc17) rfl ?hyfc17 ?_
    case hyfc17=>intro w hSw;(try dsimp only at hSw);go_simp;try with_reducible rfl
    try simp only [Act.put,sA,sZ,sS,gA,gZ,gS]
    refine tk 18 (v:=?vfc18) rfl ?hyfc18 ?_
    case hyfc18=>intro w hSw;(try dsimp only at hSw);go_simp;try with_reducible rfl
    try simp only [Act.put,sA,sZ,sS,gA,gZ,gS]
    refine tk 19 (v:=?vfc19) rfl ?hyfc19 ?_
    case hyfc19=>intro w hSw;(try dsimp only at hSw);go_simp;try with_reducible rfl
    try simp only [Act.put,sA,sZ,sS,gA,gZ,gS]
    refine wpAnyH_done (by kernel_rfl) ?_ _
    go_upto_region 1 with fail
    refine gen_world (fun z=>Lw w0 B M ⟨wi,vk,va,vr,ak⟩ (S ++ Q.take k) (t :: Q.drop (k+1)) F G (.slice (some ⟨g,o,none⟩) nq qc) (.slice fa nf fc) vg z) (uh HLw).drew ?_
    clear HLw c0 c1 c2 c3 c4 c5 c6 c7 c8 hln'
    intro wz hz
    have HLw:=hide hz
    clear hz
    go_cut [47] (fun _ wx=>∃ vq' vf',Lw w0 B M ⟨wi,vk,va,vr,ak⟩ (S ++ Q.take k) (t :: Q.drop (k+1)) (F ++ [⟨1,vk,vr,t⟩]) G vq' vf' vg wx)
    case first =>
     refine wp_region_held_drew (S:=fun q=>q.cell? ⟨B,1,none⟩=some (.int .i64 vk)∧q.cell? ⟨B,3,none⟩=some (.int .i64 vr)∧q.cell? ⟨B,4,none⟩=some (.slice (some ⟨g,o,none⟩) nq qc)∧q.cell? ⟨g,o,none⟩=some (.string t)) (by kernel_rfl) (fw_cells HLw.out.drew) (fun hHeld=>?_)
     have HZ:=hide (uh HLw).drew
     have HS0:=hide (fw_cells (uh HZ))
     have c7:=(row9l (uh HZ).row).2.2.2.2.2.2.2.1
     generalize wz.drew=y at HZ HS0 hHeld c7 ⊢
     refine tk 0 (v:=?vft0) rfl ?hyft0 ?_
     case hyft0=>intro w hSw;(try dsimp only at hSw);go_simp;try with_reducible rfl
     try simp only [Act.put,sA,sZ,sS,gA,gZ]
     refine tk 1 (v:=?vft1) rfl ?hyft1 ?_
     case hyft1=>intro w hSw;(try dsimp only at hSw);go_simp;try with_reducible rfl
     try simp only [Act.put,sA,sZ,sS,gA,gZ,gS]
     refine tk 2 (v:=?vft2) rfl ?hyft2 ?_
     case hyft2=>intro w hSw;(try dsimp only at hSw);go_simp;try with_reducible rfl
     try simp only [Act.put,sA,sZ,sS,gA,gZ,gS]
     refine tk 3 (v:=?vft3) rfl ?hyft3 ?_
     case hyft3=>intro w hSw;(try dsimp only at hSw);go_simp;try with_reducible rfl
     try simp only [Act.put,sA,sZ,sS,gA,gZ,gS]
     refine tk 5 (v:=?vft5) rfl ?hyft5 ?_
     case hyft5=>intro w hSw;(try dsimp only at hSw);go_simp;try with_reducible rfl
     try simp only [Act.put,sA,sZ,sS,gA,gZ,gS]
     refine tk 6 (v:=?vft6) rfl ?hyft6 ?_
     case hyft6=>intro w hSw;(try dsimp only at hSw);go_simp;try with_reducible rfl
     try simp only [Act.put,sA,sZ,sS,gA,gZ,gS]
     refine tk 7 (v:=?vft7) rfl ?hyft7 ?_
     case hyft7=>intro w hSw;(try dsimp only at hSw);go_simp;try with_reducible rfl
     try simp only [Act.put,sA,sZ,sS,gA,gZ,gS]
     refine tk 8 (v:=?vft8) rfl ?hyft8 ?_
     case hyft8=>intro w hSw;(try dsimp only at hSw);go_simp;try with_reducible rfl
     try simp only [Act.put,sA,sZ,sS,gA,gZ,gS]
     refine tk 9 (v:=?vft9) rfl ?hyft9 ?_
     case hyft9=>intro w hSw;(try dsimp only at hSw);go_simp;try with_reducible rfl
     try simp only [Act.put,sA,sZ,sS,gA,gZ,gS]
     refine tk 10 (v:=?vft10) rfl ?hyft10 ?_
     case hyft10=>intro w hSw;(try dsimp only at hSw);go_simp;try with_reducible rfl
     try simp only [Act.put,sA,sZ,sS,gA,gZ,gS]
     refine tk 11 (v:=?vft11) rfl ?hyft11 ?_
     case hyft11=>intro w hSw;(try dsimp only at hSw);go_simp;try with_reducible rfl
     try simp only [Act.put,sA,sZ,sS,gA,gZ,gS]
     refine tk 12 (v:=?vft12) rfl ?hyft12 ?_
     case hyft12=>intro w hSw;(try dsimp only at hSw);go_simp;try with_reducible rfl
     try simp only [Act.put,sA,sZ,sS,gA,gZ,gS]
     refine tk 13 (v:=?vft13) rfl ?hyft13 ?_
     case hyft13=>intro w hSw;(try dsimp only at hSw);go_simp;try with_reducible rfl
     try simp only [Act.put,sA,sZ,sS,gA,gZ,gS]
     refine tk 14 (v:=?vft14) rfl ?hyft14 ?_
     case hyft14=>intro w hSw;(try dsimp only at hSw);go_simp;try with_reducible rfl
     try simp only [Act.put,sA,sZ,sS,gA,gZ,gS]
     refine tk 15 (v:=?vft15) rfl ?hyft15 ?_
     case hyft15=>intro w hSw;(try dsimp only at hSw);go_simp;try with_reducible rfl
     try simp only [Act.put,sA,sZ,sS,gA,gZ,gS]
     refine tk 16 (v:=?vft16) rfl ?hyft16 ?_
     case hyft16=>intro w hSw;(try dsimp only at hSw);go_simp;try with_reducible rfl
     try simp only [Act.put,sA,sZ,sS,gA,gZ,gS]
     refine tk 17 (v:=?vft17) rfl ?hyft17 ?_
     case hyft17=>intro w hSw;(try dsimp only at hSw);go_simp;try with_reducible rfl
     try simp only [Act.put,sA,sZ,sS,gA,gZ,gS]
     refine tk 18 (v:=?vft18) rfl ?hyft18 ?_
     case hyft18=>intro w hSw;(try dsimp only at hSw);go_simp;try with_reducible rfl
     try simp only [Act.put,sA,sZ,sS,gA,gZ,gS]
     refine tk 19 (v:=?vft19) rfl ?hyft19 ?_
     case hyft19=>intro w hSw;(try dsimp only at hSw);go_simp;try with_reducible rfl
     try simp only [Act.put,sA,sZ,sS,gA,gZ,gS]
     refine tk 20 (v:=?vft20) rfl ?hyft20 ?_
     case hyft20=>intro w hSw;(try dsimp only at hSw);go_simp;try with_reducible rfl
     try simp only [Act.put,sA,sZ,sS,gA,gZ,gS]
     refine tk 21 (v:=?vft21) rfl ?hyft21 ?_
     case hyft21=>intro w hSw;(try dsimp only at hSw);go_simp;try with_reducible rfl
     try simp only [Act.put,sA,sZ,sS,gA,gZ,gS]
     refine wpAnyH_ready (rs:=[4,22]) (by kernel_rfl) (by simp) ?_
     refine AllReadyH.cons rfl (fun K hK=>?_) (AllReadyH.cons rfl (fun K hK=>?_) (AllReadyH.nil))
     ·go_simp
      refine hK.out _ _ (uh HS0) (fun _=>?_)
      clear hK K
      try simp only [Act.put,sA,sZ,sS,gA,gZ,gS]
      refine r1 22 rfl (fun K hK=>?_)
      go_simp
      refine (uh CC _).mono ?_
      rintro e z1 ⟨rfl,hb1⟩
      have hl1:=(uh HZ).step hb1
      have d7:=(row9l hl1.row).2.2.2.2.2.2.2.1
      have hBl:B<z1.heap.size:=(Array.getElem?_eq_some_iff.1 hl1.row).1
      have hBn:¬ (B=z1.heap.size):=by omega
      have hbA:Below z1.heap.size z1 (z1.alloc (.cells #[.int .i64 1,.int .i64 vk,.int .i64 vr,.string t] 96)):=(Below.refl _ _).alloc (Nat.le_refl _) _
      have hsz1:=fw_cells hl1
      have HS1:=hide hsz1
      have HS2:=hide (fw_cells (hl1.step hbA))
      have d7':=(row9l (hl1.step hbA).row).2.2.2.2.2.2.2.1
      have hof9:=(hl1.step hbA).of
      rw [hnf] at hof9
      have HOF:=hide hof9
      clear hof9
      have HZ1:=hide (And.intro (hl1.step hbA) (heap_alloc_new z1 (.cells #[.int .i64 1,.int .i64 vk,.int .i64 vr,.string t] 96)))
      clear hb1 hl1 hbA hsz1
      go_wp2_with fail
      refine hK.out _ _ (uh HS1) (fun _=>?_)
      clear hK K
      try simp only [Act.put,sA,sZ,sS,gA,gZ,gS]
      refine tk 23 (v:=?vu623) rfl ?hyu623 ?_
      case hyu623=>intro w hSw;(try dsimp only at hSw);go_simp;try with_reducible rfl
      try simp only [Act.put,sA,sZ,sS,gA,gZ,gS]
      refine r1 24 rfl (fun K hK=>?_)
      go_simp
      refine hK.out _ _ (uh HS2) (fun _=>?_)
      clear hK K
      try simp only [Act.put,sA,sZ,sS,gA,gZ,gS]
      refine r1 25 rfl (fun K hK=>?_)
      refine step_append_nb (z1.alloc (.cells #[.int .i64 1,.int .i64 vk,.int .i64 vr,.string t] 96)) (by rfl) _ _ (by rfl) w0.heap.size (.slice fa nf fc) F nf hnf 1 vk vr t z1.heap.size (by rfl) (by rfl) (uh HOF) (uh HZ1).2 (by omega) (uh HZ1).1.lo.size ?_
      rintro v4 z2 ho4 hg4
      obtain ⟨a4,c4',rfl⟩:=own_form ho4
      obtain ⟨g7,f7,hsz2⟩:=fw_grow (uh HZ1).1 hg4
      have HS3:=hide hsz2
      have HF:=hide ((uh HZ1).1.putF hg4 (F':=F ++ [⟨1,vk,vr,t⟩]) (by rw [List.length_append,hnf];exact ho4))
      have HS4:=hide (fw_cells (uh HF))
      clear ho4 hg4 hsz2
      refine hK.out _ _ (uh HS3) (fun _=>?_)
      clear hK K
      try simp only [Act.put,sA,sZ,sS,gA,gZ,gS]
      refine tk 26 (v:=?vu726) rfl ?hyu726 ?_
      case hyu726=>intro w hSw;(try dsimp only at hSw);go_simp;try with_reducible rfl
      try simp only [Act.put,sA,sZ,sS,gA,gZ,gS]
      refine tk 27 (v:=?vu727) rfl ?hyu727 ?_
      case hyu727=>intro w hSw;(try dsimp only at hSw);go_simp;try with_reducible rfl
      try simp only [Act.put,sA,sZ,sS,gA,gZ,gS]
      refine r1 28 rfl (fun K hK=>?_)
      go_simp
      refine hK.out _ _ (uh HS4) (fun _=>?_)
      clear hK K
      try simp only [Act.put,List.getElem_toArray,List.getElem_cons_zero,List.getElem_cons_succ]
      refine wpAnyH_done (by kernel_rfl) ?_ _
      go_wp2_with fail
      go_meet
      exact ⟨_,_,uh HF⟩
     ·go_simp
      refine (uh CC _).mono ?_
      rintro e z1 ⟨rfl,hb1⟩
      have hl1:=(uh HZ).step hb1
      have d7:=(row9l hl1.row).2.2.2.2.2.2.2.1
      have hBl:B<z1.heap.size:=(Array.getElem?_eq_some_iff.1 hl1.row).1
      have hBn:¬ (B=z1.heap.size):=by omega
      have hbA:Below z1.heap.size z1 (z1.alloc (.cells #[.int .i64 1,.int .i64 vk,.int .i64 vr,.string t] 96)):=(Below.refl _ _).alloc (Nat.le_refl _) _
      have hsz1:=fw_cells hl1
      have HS1:=hide hsz1
      have HS2:=hide (fw_cells (hl1.step hbA))
      have d7':=(row9l (hl1.step hbA).row).2.2.2.2.2.2.2.1
      have hof9:=(hl1.step hbA).of
      rw [hnf] at hof9
      have HOF:=hide hof9
      clear hof9
      have HZ1:=hide (And.intro (hl1.step hbA) (heap_alloc_new z1 (.cells #[.int .i64 1,.int .i64 vk,.int .i64 vr,.string t] 96)))
      clear hb1 hl1 hbA hsz1
      go_wp2_with fail
      refine hK.out _ _ (uh HS1) (fun _=>?_)
      clear hK K
      try simp only [Act.put,sA,sZ,sS,gA,gZ,gS]
      refine tk 23 (v:=?vu823) rfl ?hyu823 ?_
      case hyu823=>intro w hSw;(try dsimp only at hSw);go_simp;try with_reducible rfl
      try simp only [Act.put,sA,sZ,sS,gA,gZ,gS]
      refine wpAnyH_ready (rs:=[4,24]) (by kernel_rfl) (by simp) ?_
      refine AllReadyH.cons rfl (fun K hK=>?_) (AllReadyH.cons rfl (fun K hK=>?_) (AllReadyH.nil))
      ·go_simp
       refine hK.out _ _ (uh HS1) (fun _=>?_)
       clear hK K
       try simp only [Act.put,sA,sZ,sS,gA,gZ,gS]
       refine r1 24 rfl (fun K hK=>?_)
       go_simp
       refine hK.out _ _ (uh HS2) (fun _=>?_)
       clear hK K
       try simp only [Act.put,sA,sZ,sS,gA,gZ,gS]
       refine r1 25 rfl (fun K hK=>?_)
       refine step_append_nb (z1.alloc (.cells #[.int .i64 1,.int .i64 vk,.int .i64 vr,.string t] 96)) (by rfl) _ _ (by rfl) w0.heap.size (.slice fa nf fc) F nf hnf 1 vk vr t z1.heap.size (by rfl) (by rfl) (uh HOF) (uh HZ1).2 (by omega) (uh HZ1).1.lo.size ?_
       rintro v4 z2 ho4 hg4
       obtain ⟨a4,c4',rfl⟩:=own_form ho4
       obtain ⟨g7,f7,hsz2⟩:=fw_grow (uh HZ1).1 hg4
       have HS3:=hide hsz2
       have HF:=hide ((uh HZ1).1.putF hg4 (F':=F ++ [⟨1,vk,vr,t⟩]) (by rw [List.length_append,hnf];exact ho4))
       have HS4:=hide (fw_cells (uh HF))
       clear ho4 hg4 hsz2
       refine hK.out _ _ (uh HS3) (fun _=>?_)
       clear hK K
       try simp only [Act.put,sA,sZ,sS,gA,gZ,gS]
       refine tk 26 (v:=?vu926) rfl ?hyu926 ?_
       case hyu926=>intro w hSw;(try dsimp only at hSw);go_simp;try with_reducible rfl
       try simp only [Act.put,sA,sZ,sS,gA,gZ,gS]
       refine tk 27 (v:=?vu927) rfl ?hyu927 ?_
       case hyu927=>intro w hSw;(try dsimp only at hSw);go_simp;try with_reducible rfl
       try simp only [Act.put,sA,sZ,sS,gA,gZ,gS]
       refine r1 28 rfl (fun K hK=>?_)
       go_simp
       refine hK.out _ _ (uh HS4) (fun _=>?_)
       clear hK K
       try simp only [Act.put,List.getElem_toArray,List.getElem_cons_zero,List.getElem_cons_succ]
       refine wpAnyH_done (by kernel_rfl) ?_ _
       go_wp2_with fail
       go_meet
       exact ⟨_,_,uh HF⟩
      ·go_simp
       refine hK.out _ _ (uh HS2) (fun _=>?_)
       clear hK K
       try simp only [Act.put,sA,sZ,sS,gA,gZ,gS]
       refine r1 4 rfl (fun K hK=>?_)
       go_simp
       refine hK.out _ _ (uh HS2) (fun _=>?_)
       clear hK K
       try simp only [Act.put,sA,sZ,sS,gA,gZ,gS]
       refine r1 25 rfl (fun K hK=>?_)
       refine step_append_nb (z1.alloc (.cells #[.int .i64 1,.int .i64 vk,.int .i64 vr,.string t] 96)) (by rfl) _ _ (by rfl) w0.heap.size (.slice fa nf fc) F nf hnf 1 vk vr t z1.heap.size (by rfl) (by rfl) (uh HOF) (uh HZ1).2 (by omega) (uh HZ1).1.lo.size ?_
       rintro v4 z2 ho4 hg4
       obtain ⟨a4,c4',rfl⟩:=own_form ho4
       obtain ⟨g7,f7,hsz2⟩:=fw_grow (uh HZ1).1 hg4
       have HS3:=hide hsz2
       have HF:=hide ((uh HZ1).1.putF hg4 (F':=F ++ [⟨1,vk,vr,t⟩]) (by rw [List.length_append,hnf];exact ho4))
       have HS4:=hide (fw_cells (uh HF))
       clear ho4 hg4 hsz2
       refine hK.out _ _ (uh HS3) (fun _=>?_)
       clear hK K
       try simp only [Act.put,sA,sZ,sS,gA,gZ,gS]
       refine tk 26 (v:=?vu1026) rfl ?hyu1026 ?_
       case hyu1026=>intro w hSw;(try dsimp only at hSw);go_simp;try with_reducible rfl
       try simp only [Act.put,sA,sZ,sS,gA,gZ,gS]
       refine tk 27 (v:=?vu1027) rfl ?hyu1027 ?_
       case hyu1027=>intro w hSw;(try dsimp only at hSw);go_simp;try with_reducible rfl
       try simp only [Act.put,sA,sZ,sS,gA,gZ,gS]
       refine r1 28 rfl (fun K hK=>?_)
       go_simp
       refine hK.out _ _ (uh HS4) (fun _=>?_)
       clear hK K
       try simp only [Act.put,List.getElem_toArray,List.getElem_cons_zero,List.getElem_cons_succ]
       refine wpAnyH_done (by kernel_rfl) ?_ _
       go_wp2_with fail
       go_meet
       exact ⟨_,_,uh HF⟩
    case rest =>
     obtain ⟨vq5,vf5,hL5⟩:=hcut
     have C5:=hide (uh CN _ _ _ hL5)
     clear hL5 HLw CC
     go_wp2_with fail
     refine (uh C5).mono ?_
     rintro e w6 ⟨rfl,⟨vq6,hL6⟩,_,_⟩
     have hJ6:=uh HJJ _ _ _ hL6
     have HJ6:=hide hJ6
     clear hJ6 hL6 C5 CN HJJ
     go_wp2_with fail
     go_step3
     refine Eq.mpr (jumps_goto 0) ?_
     exact ⟨rfl,_,_,_,_,_,_,_,_,_,_,_,_,_,_,_,_,_,_,_,_,_,_,_,_,_,_,_,_,_,_,_,_,_,_,_,_,_,_,_,_,_,_,_,_,_,_,_,_,_,_,_,rfl,k+1,(uh HJ6).1⟩
end Go.Proofs.YtkcghhkkepndnaaGreatDoor
