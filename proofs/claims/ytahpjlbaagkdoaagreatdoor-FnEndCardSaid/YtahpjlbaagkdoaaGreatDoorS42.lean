/- LwIn -/
import Derived.Test.YtahpjlbaagkdoaaGreatDoorS00
set_option maxHeartbeats 1000000
namespace Go.Proofs.YtahpjlbaagkdoaaGreatDoor
open Go.RowKit Go.Proofs.Tryz
def inT (L:List ByteArray) (t:ByteArray):Bool:=L.any fun x=>x.toList == t.toList
theorem inT_snoc (L:List ByteArray) (t:ByteArray) (i:Nat) (hi:i<L.length):inT (L.take (i+1)) t=(inT (L.take i) t || L[i].toList == t.toList):=by
 unfold inT;rw [List.take_succ_eq_append_getElem hi,List.any_append];simp
theorem lwInT (v:Value) (L:List ByteArray) (t:ByteArray) (w:World) (hn:L.length≤1000000) (h:HoldsT w v L) :
  Calls prog 36 #[v,.string t] w fun e w'=>e=.returned (.bool (inT L t))∧w'=w:=by
 have HA:Hid (∀ i (hi:i<L.length),∃ g,(∃ cp,v=.slice (some ⟨g,0,none⟩) L.length cp)∧w.cell? ⟨g,i,none⟩=some (.string L[i])):=by
  refine hide fun i hi=>?_
  rcases h with ⟨_,_,_,e⟩ | ⟨g,cp,cur,e,q1,q2,q3⟩
  ·rw [e] at hi;exact absurd hi (Nat.not_lt_zero _)
  ·exact ⟨g,⟨cp,e⟩,by rw [cr q1,q3 i hi];exact scells_get L i _ (List.getElem?_eq_getElem hi)⟩
 obtain ⟨a1,c1,rfl⟩:=h.form;have HT:Hid (L.take L.length=L):=hide List.take_length;obtain ⟨n,hL⟩:∃ n,L.length=n:=⟨_,rfl⟩;obtain ⟨R,hR⟩:∃ R,inT L t=R:=⟨_,rfl⟩;have HR:=hide hR;have HM:Hid (∀ i (hi:i<L.length),inT (L.take i) t=false→(L[i].toList == t.toList)=true→inT L t=true):=hide fun i hi _ he=>List.any_eq_true.2 ⟨L[i],List.getElem_mem hi,he⟩
 rw [hL] at hn HT ⊢;rw [hR];clear h hR;go_enter func36,ntmps36
 go_wp2_with fail
 go_loop [5] (fun y=>∃ (i:Nat),i≤n∧y=.int .i64 i∧inT (L.take i) t=false) (fun y=>n - (intOf y).toNat)
 case atStart=>exact ⟨0,Nat.zero_le _,rfl,rfl⟩
 case round =>
  obtain ⟨i,hi,rfl,hf⟩:=hrel;by_cases hlt:i<n
  ·have d1:(i:Int)<(n:Int):=by omega
   have d0:(0:Int)≤(i:Int):=by omega
   obtain ⟨g1,⟨cp1,e1⟩,k1⟩:=uh HA i (by omega);cases e1;have HS:=hide (inT_snoc L t i (by omega));have HMM:=hide (uh HM i (by omega) hf);generalize L[i]'(by omega)=x at *;have HF:=hide hf;clear hf HA HM HT;cases hq:(x.toList == t.toList)
   ·rw [hq,uh HF,Bool.or_false] at HS;go_wp2_with fail
    go_round
    case rel=>exact ⟨i+1,by omega,by go_num,uh HS⟩
    case measure=>simp [intOf];omega
   ·have e:=(uh HR).symm.trans (uh HMM hq);subst e;clear HR HMM HS HF;go_wp2
    go_ret
    exact ⟨rfl,rfl⟩
  ·have e:i=n:=by omega
   subst e;have d1:¬ ((i:Int)<(i:Int)):=by omega
   rw [uh HT] at hf;have e:=(uh HR).symm.trans hf;subst e;clear HR HM HA HT hf;go_wp2
   go_ret
   exact ⟨rfl,rfl⟩
end Go.Proofs.YtahpjlbaagkdoaaGreatDoor
