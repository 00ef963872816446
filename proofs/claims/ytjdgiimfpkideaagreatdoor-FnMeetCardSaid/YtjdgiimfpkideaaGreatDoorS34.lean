/- EnR -/
import Derived.Test.YtjdgiimfpkideaaGreatDoorS33
import Derived.Test.YtjdgiimfpkideaaGreatDoorS30
namespace Go.Proofs.YtjdgiimfpkideaaGreatDoor
open Go.RowKit Go.Proofs.Tryz
variable {e:En} {F1 F2:List Op.Opt}
theorem B9(h:dJ e F1 F2=true):dJ (cO e) F1 F2=true:=by
 simp only[dJ,zK]at h|-;obtain⟨h1,_,h3,h4,h5,_,h7⟩:=h;exact⟨h1,h1,h3,h4,h5,(show bh 0 3 0=true by decide),h7⟩
theorem C6{x:Cf}(h:dJ e F1 F2=true)(hx:sw x=true):dJ (ee e x) F1 F2=true:=by
 simp only[dJ,zK]at h|-;obtain⟨h1,_,h3⟩:=h;exact⟨h1,hx,h3⟩
theorem Ok9.of{e':En}{o:EO}(h:Ok9 e' o)(he:e'.up=e.up):Ok9 e o:=by
 refine⟨h.no,fun h0=>?_⟩;have:=h.yes h0
 rw[he]at this;exact this
theorem BD(e:En)(F1 F2:List Op.Opt)(now:Int):Ok9 e (dq e F1 F2 now):=by
 unfold dq;split
 .rename_i h
  obtain⟨hf,_,_⟩:=Aw h;rw[zK]at h;split
  .exact oT _ _ (by decide)
  split
  .exact oz (i:=4) (by decide) hf h.1
  .exact oz (i:=5) (by decide) hf h.1
 .exact oT _ _ (by decide)
theorem Bc(e:En)(F1 F2:List Op.Opt)(t:ByteArray)(now:Int):Ok9 e (kC e F1 F2 t now):=by
 unfold kC;split
 .exact oT _ _ (by decide)
 split
 .rename_i h
  obtain⟨hf,_,_⟩:=Aw h;rw[zK]at h;split
  .rename_i ht
   subst ht;exact Ok9.of (oz (i:=0) (by decide) hf.fresh (B9 h.1)) rfl
  split
  .rename_i ht
   rcases ht with rfl|rfl|rfl
   .exact oz (i:=1) (by decide) hf h.1
   .exact oz (i:=2) (by decide) hf h.1
   .exact oz (i:=3) (by decide) hf h.1
  .exact oT _ _ (by decide)
 .exact oT _ _ (by decide)
theorem tg(e:En)(F1 F2:List Op.Opt)(p:Op.Pk)(now:Int):Ok9 e (bn e F1 F2 p now):=by
 unfold bn;split
 .rename_i h
  obtain⟨hf,hs,_⟩:=Aw h.1;have hp:=h.2;have hen:=h.1;rw[zK]at hen;have hd:p.data.size<=250:=by
   have:=hp
   unfold Op.pok at this;exact(of_decide_eq_true this).2.2.2.2
  have hf2:Fit 0 (aU now p [] (0,[]) ai ai) ⟨e,F1,F2,[],[]⟩:=hf.came p hp rfl rfl _ _;have key:∀k,k<16->Ok9 e (bj (aU now p [] (0,[]) ai ai) ⟨e,F1,F2,[],[]⟩ (im k)):=fun k hk=>oz hk hf2 hen.1
  split
  .exact oT _ _ (by decide)
  unfold aB;split
  .split
   .have hfx:=hf.came p hp (eS hd) (kB e (eS hd)) ai ai;by_cases ha:(dI e (ar p.data).1).1=2
    .rw [if_pos ha];exact oz (by decide) hfx hen.1
    .rw [if_neg ha];exact oz (by decide) hfx hen.1
   .rename_i h0
    exact oT _ _ h0
  split
  .split
   .exact key 8 (by decide)
   .exact oT _ _ (by decide)
  split
  .split
   .split
    .have hx:sw (if p.code=3 then bF (gr e) (ar p.data).1 else gI (gr e) (ar p.data).1)=true:=by
      split
      .exact gK (eF hf.ask) _
      .exact nf (eF hf.ask) _
     exact Ok9.of (oz (by decide) (hf2.asks hx) (C6 hen.1 hx)) rfl
    .rename_i h0
     exact oT _ _ h0
   .exact oT _ _ (by decide)
  split
  .exact oT _ _ (by decide)
  .apply key
   split
   .decide
   split
   .decide
   split
   .split<;>decide
   split<;>decide
 .exact oT _ _ (by decide)
end Go.Proofs.YtjdgiimfpkideaaGreatDoor
