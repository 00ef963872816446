/- Bytes -/
import Derived.Test.YtahpjlbaagkdoaaGreatDoorS33
namespace Go.Proofs.YtahpjlbaagkdoaaGreatDoor
open Go.Proofs.Tryz
open Go.ChangeShapes Go.WideShapes Go.ChangeAt Go.RowKit
theorem cellsU8:prog.cellsOf 5=1:=by kernel_rfl
theorem dat_of {H:Type} {enc:TypeId × Value→H} {W:World} {a:Option Addr} {len cap:Nat} {d:DataW H} {ps:List MemPlace}
  (h:DataW.Trod enc prog W 0 (fun _=>true) true 22 (.slice a len cap) d ps):Dat W W.heap.size (.slice a len cap) len∧len≤maxLen:=by
 obtain ⟨fuel,hf⟩:=h;rcases open_ints underlying22 underlying5 cellsU8 hf with ⟨hcs,hx⟩ | ⟨a',len',cap',zs,hcs,_,hl,hm,hz,hx,hcell,hwz⟩
 ·simp [Value.cells] at hcs;obtain ⟨rfl,rfl,rfl⟩:=hcs;exact ⟨⟨⟨_,_,rfl⟩,fun i hi=>absurd hi (Nat.not_lt_zero i)⟩,Nat.zero_le _⟩
 ·simp [Value.cells] at hcs;obtain ⟨rfl,rfl,rfl⟩:=hcs;simp only [if_true] at hz;refine ⟨⟨⟨_,_,rfl⟩,fun i hi=>?_⟩,by omega⟩;have hc:=hcell i (by omega);obtain ⟨b,o,sp⟩:=a';have hsp:sp=none:=by
   cases sp with
   | none=>rfl
   | some x =>
    have hc0:=hcell 0 (by omega);unfold World.cell? Addr.add at hc0;split at hc0<;>simp at hc0
  subst hsp;have hadd:(⟨b,o,none⟩:Addr).add i=⟨b,o+i,none⟩:=by unfold Addr.add;split<;>simp_all
  rw [hadd] at hc;have hw:=hwz (zs.getD i 0) (by
   rw [List.getD_eq_getElem?_getD,List.getElem?_eq_getElem (by omega)];exact List.getElem_mem _)
  have hb:0≤zs.getD i 0∧zs.getD i 0≤255:=by simpa [Lit.wf,IntKind.min,IntKind.max,IntKind.signed,IntKind.bits] using hw
  obtain ⟨x,hx2⟩:=Int.eq_ofNat_of_zero_le hb.1;refine ⟨b,o,cap,x,rfl,World.block_lt_of_cell? W _ hc,?_,by omega⟩;rw [hc,hx2]
end Go.Proofs.YtahpjlbaagkdoaaGreatDoor
