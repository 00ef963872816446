/- EnR -/
import Derived.Test.YtahpjlbaagkdoaaGreatDoorS43
import Derived.Test.YtahpjlbaagkdoaaGreatDoorS32
namespace Go.Proofs.YtahpjlbaagkdoaaGreatDoor
open Go.RowKit Go.Proofs.Tryz
theorem enOk_fresh {e:En} {F1 F2:List Op.Opt} (h:enOk e F1 F2=true):enOk (freshE e) F1 F2=true:=by
 simp only [enOk,Bool.and_eq_true] at h ⊢;obtain ⟨h1,_,h3,h4,h5,_,h7⟩:=h;exact ⟨h1,h1,h3,h4,h5,(show within 0 3 0=true by decide),h7⟩
theorem enOk_asks {e:En} {F1 F2:List Op.Opt} {x:Cf} (h:enOk e F1 F2=true) (hx:okC x=true):enOk (setA e x) F1 F2=true:=by
 simp only [enOk,Bool.and_eq_true] at h ⊢;obtain ⟨h1,_,h3⟩:=h;exact ⟨h1,hx,h3⟩
theorem Ok9.of {e e':En} {o:EO} (h:Ok9 e' o) (he:e'.up=e.up):Ok9 e o:=by
 refine ⟨h.no,fun h0=>?_⟩;have:=h.yes h0
 rw [he] at this;exact this
theorem tickF_right (e:En) (F1 F2:List Op.Opt) (now:Int):Ok9 e (tickF e F1 F2 now):=by
 unfold tickF;split
 ·rename_i h
  obtain ⟨hf,_,_⟩:=fit0 h;rw [Bool.and_eq_true] at h;split
  ·exact ok9_err _ _ (by decide)
  split
  ·exact evF_right (i:=4) (by decide) hf h.1
  ·exact evF_right (i:=5) (by decide) hf h.1
 ·exact ok9_err _ _ (by decide)
theorem doF_right (e:En) (F1 F2:List Op.Opt) (t:ByteArray) (now:Int):Ok9 e (doF e F1 F2 t now):=by
 unfold doF;split
 ·exact ok9_err _ _ (by decide)
 split
 ·rename_i h
  obtain ⟨hf,_,_⟩:=fit0 h;rw [Bool.and_eq_true] at h;split
  ·rename_i ht
   subst ht;exact Ok9.of (evF_right (i:=0) (by decide) hf.fresh (enOk_fresh h.1)) rfl
  split
  ·rename_i ht
   rcases ht with rfl | rfl | rfl
   ·exact evF_right (i:=1) (by decide) hf h.1
   ·exact evF_right (i:=2) (by decide) hf h.1
   ·exact evF_right (i:=3) (by decide) hf h.1
  ·exact ok9_err _ _ (by decide)
 ·exact ok9_err _ _ (by decide)
theorem hearF_right (e:En) (F1 F2:List Op.Opt) (p:Op.Pk) (now:Int):Ok9 e (hearF e F1 F2 p now):=by
 unfold hearF;split
 ·rename_i h
  obtain ⟨hf,hs,_⟩:=fit0 h.1;have hp:=h.2;have hen:=h.1;rw [Bool.and_eq_true] at hen;have hd:p.data.size≤250:=by
   have:=hp
   unfold Op.pok at this;exact (of_decide_eq_true this).2.2.2.2
  have hf2:Fit 0 (cxP now p [] (0,[]) nilS nilS) ⟨e,F1,F2,[],[]⟩:=hf.came p hp rfl rfl _ _;have key:∀ k,k<16→Ok9 e (evF (cxP now p [] (0,[]) nilS nilS) ⟨e,F1,F2,[],[]⟩ (evT k)):=fun k hk=>evF_right hk hf2 hen.1
  split
  ·exact ok9_err _ _ (by decide)
  unfold hearP;split
  ·split
   ·have hfx:=hf.came p hp (oread_ok hd) (ansF_ok e (oread_ok hd)) nilS nilS;by_cases ha:(ansF e (oread p.data).1).1=2
    ·rw [if_pos ha];exact evF_right (by decide) hfx hen.1
    ·rw [if_neg ha];exact evF_right (by decide) hfx hen.1
   ·rename_i h0
    exact ok9_err _ _ h0
  split
  ·split
   ·exact key 8 (by decide)
   ·exact ok9_err _ _ (by decide)
  split
  ·split
   ·split
    ·have hx:okC (if p.code=3 then lessF (cfA e) (oread p.data).1 else woF (cfA e) (oread p.data).1)=true:=by
      split
      ·exact lessF_ok (cfA_ok hf.ask) _
      ·exact woF_ok (cfA_ok hf.ask) _
     exact Ok9.of (evF_right (by decide) (hf2.asks hx) (enOk_asks hen.1 hx)) rfl
    ·rename_i h0
     exact ok9_err _ _ h0
   ·exact ok9_err _ _ (by decide)
  split
  ·exact ok9_err _ _ (by decide)
  ·apply key
   split
   ·decide
   split
   ·decide
   split
   ·split<;>decide
   split<;>decide
 ·exact ok9_err _ _ (by decide)
end Go.Proofs.YtahpjlbaagkdoaaGreatDoor
