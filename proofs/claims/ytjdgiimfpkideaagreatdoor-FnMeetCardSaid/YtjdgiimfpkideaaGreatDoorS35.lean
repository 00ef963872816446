/- FmB -/
import Derived.Test.YtjdgiimfpkideaaGreatDoorS32
import Derived.Test.YtjdgiimfpkideaaGreatDoorS34
namespace Go.Proofs.YtjdgiimfpkideaaGreatDoor
open Go.RowKit Go.Proofs.Tryz
structure Evd(now:Int)(e:En)(F:List Op.Opt)(ns:Int)(irc sc:Bool)(G:List Op.Opt)(fl:Int)(rp:List Op.Pk)(o:EO):Prop where
 cd:o.cd=0
 st:o.e.st=ns
 cf:o.e.m1=e.m1/\o.e.a1=e.a1/\o.e.g1=e.g1/\o.e.p1=e.p1/\o.e.c1=e.c1/\o.e.d1=e.d1
 ak:o.e.m2=e.m2/\o.e.a2=e.a2/\o.e.g2=e.g2/\o.e.p2=e.p2/\o.e.c2=e.c2/\o.e.d2=e.d2
 id:o.e.id=if sc=true then(e.id+1)%256 else e.id
 tr:o.e.tr=if sc=true then max 0 ((if irc=true then 5 else e.tr)-1)else if irc=true then 5 else e.tr
 du:o.e.du=if gj ns=true then(if(decide (e.du<0)||irc||sc)=true then now+3 else e.du)else -1
 fl:o.e.fl=fl
 f1:o.F1=if sc=true then dv e else F
 f2:o.F2=G
 sn:o.sn=(if sc=true then[⟨1,(e.id+1)%256,co (Op.bytes (dv e))⟩]else[])++rp
theorem yl:dH mO=true:=by unfold dH;rw[ByteArray.toList_eq];decide
theorem ph:dH mP=false:=by unfold dH;rw[ByteArray.toList_eq];decide
theorem AK:dH pY=false:=by unfold dH;rw[ByteArray.toList_eq];decide
theorem Ab:dH pZ=false:=by unfold dH;rw[ByteArray.toList_eq];decide
theorem ym:dH bL=false:=by unfold dH;rw[ByteArray.toList_eq];decide
theorem oR(A:List ByteArray)(z x y:Int)(irc sc:Bool)(h:A.any dH=irc)(hx:x=if sc=true then z else y):(if(decide (x<0)||A.any dH)=true then z else x)=if(decide (y<0)||irc||sc)=true then z else y:=by
 rw[h,hx];cases sc
 .rw [Bool.or_false];rfl
 .rw [Bool.or_true];cases hs:(decide ((if true=true then z else y)<0)||irc)<;>simp
theorem Dw{α:Type}{p:Prop}[Decidable p](x:α):(if p then x else x)=x:=by split<;>rfl
theorem FV:bO 6 (im 4)=(6,[mP],0):=by kernel_rfl
theorem FY(c:Cx)(e:En)(F1 F2:List Op.Opt)(h:e.st=6):Evd c.now e F1 6 false true (F2) (e.fl) ([]) (bj c ⟨e,F1,F2,[],[]⟩ (im 4)):=by
 have q:bj c ⟨e,F1,F2,[],[]⟩ (im 4)=⟨fm c [mP] 6 (kq c.now (fi (e))),dv (e),F2,[⟨1,((e).id+1)%256,co (Op.bytes (dv (e)))⟩],[],0⟩:=by
  unfold bj;dsimp only;rw[h,FV];kernel_rfl
 rw[q];exact⟨rfl,rfl,⟨rfl,rfl,rfl,rfl,rfl,rfl⟩,⟨rfl,rfl,rfl,rfl,rfl,rfl⟩,rfl,rfl,oR [mP] (c.now+3) (c.now+3) e.du false true (by simp[ph]) (rfl),rfl,rfl,rfl,rfl⟩
theorem FZ:bO 7 (im 4)=(6,[mP],0):=by kernel_rfl
theorem F3(c:Cx)(e:En)(F1 F2:List Op.Opt)(h:e.st=7):Evd c.now e F1 6 false true (F2) (e.fl) ([]) (bj c ⟨e,F1,F2,[],[]⟩ (im 4)):=by
 have q:bj c ⟨e,F1,F2,[],[]⟩ (im 4)=⟨fm c [mP] 6 (kq c.now (fi (e))),dv (e),F2,[⟨1,((e).id+1)%256,co (Op.bytes (dv (e)))⟩],[],0⟩:=by
  unfold bj;dsimp only;rw[h,FZ];kernel_rfl
 rw[q];exact⟨rfl,rfl,⟨rfl,rfl,rfl,rfl,rfl,rfl⟩,⟨rfl,rfl,rfl,rfl,rfl,rfl⟩,rfl,rfl,oR [mP] (c.now+3) (c.now+3) e.du false true (by simp[ph]) (rfl),rfl,rfl,rfl,rfl⟩
theorem F4:bO 8 (im 4)=(8,[mP],0):=by kernel_rfl
theorem F5(c:Cx)(e:En)(F1 F2:List Op.Opt)(h:e.st=8):Evd c.now e F1 8 false true (F2) (e.fl) ([]) (bj c ⟨e,F1,F2,[],[]⟩ (im 4)):=by
 have q:bj c ⟨e,F1,F2,[],[]⟩ (im 4)=⟨fm c [mP] 8 (kq c.now (fi (e))),dv (e),F2,[⟨1,((e).id+1)%256,co (Op.bytes (dv (e)))⟩],[],0⟩:=by
  unfold bj;dsimp only;rw[h,F4];kernel_rfl
 rw[q];exact⟨rfl,rfl,⟨rfl,rfl,rfl,rfl,rfl,rfl⟩,⟨rfl,rfl,rfl,rfl,rfl,rfl⟩,rfl,rfl,oR [mP] (c.now+3) (c.now+3) e.du false true (by simp[ph]) (rfl),rfl,rfl,rfl,rfl⟩
theorem F6:bO 6 (im 5)=(3,[bQ],0):=by kernel_rfl
theorem F7(c:Cx)(e:En)(F1 F2:List Op.Opt)(h:e.st=6):Evd c.now e F1 3 false false (F2) (e.fl) ([]) (bj c ⟨e,F1,F2,[],[]⟩ (im 5)):=by
 have q:bj c ⟨e,F1,F2,[],[]⟩ (im 5)=⟨fm c [bQ] 3 (e),F1,F2,[],[bQ],0⟩:=by
  unfold bj;dsimp only;rw[h,F6];kernel_rfl
 rw[q];exact⟨rfl,rfl,⟨rfl,rfl,rfl,rfl,rfl,rfl⟩,⟨rfl,rfl,rfl,rfl,rfl,rfl⟩,rfl,rfl,rfl,rfl,rfl,rfl,rfl⟩
theorem F8:bO 7 (im 5)=(3,[bQ],0):=by kernel_rfl
theorem F9(c:Cx)(e:En)(F1 F2:List Op.Opt)(h:e.st=7):Evd c.now e F1 3 false false (F2) (e.fl) ([]) (bj c ⟨e,F1,F2,[],[]⟩ (im 5)):=by
 have q:bj c ⟨e,F1,F2,[],[]⟩ (im 5)=⟨fm c [bQ] 3 (e),F1,F2,[],[bQ],0⟩:=by
  unfold bj;dsimp only;rw[h,F8];kernel_rfl
 rw[q];exact⟨rfl,rfl,⟨rfl,rfl,rfl,rfl,rfl,rfl⟩,⟨rfl,rfl,rfl,rfl,rfl,rfl⟩,rfl,rfl,rfl,rfl,rfl,rfl,rfl⟩
theorem F_:bO 8 (im 5)=(3,[bQ],0):=by kernel_rfl
theorem Ga(c:Cx)(e:En)(F1 F2:List Op.Opt)(h:e.st=8):Evd c.now e F1 3 false false (F2) (e.fl) ([]) (bj c ⟨e,F1,F2,[],[]⟩ (im 5)):=by
 have q:bj c ⟨e,F1,F2,[],[]⟩ (im 5)=⟨fm c [bQ] 3 (e),F1,F2,[],[bQ],0⟩:=by
  unfold bj;dsimp only;rw[h,F_];kernel_rfl
 rw[q];exact⟨rfl,rfl,⟨rfl,rfl,rfl,rfl,rfl,rfl⟩,⟨rfl,rfl,rfl,rfl,rfl,rfl⟩,rfl,rfl,rfl,rfl,rfl,rfl,rfl⟩
theorem Gb:bO 3 (im 6)=(8,[mO,mP,pY],0):=by kernel_rfl
theorem Gc(c:Cx)(e:En)(F1 F2:List Op.Opt)(h:e.st=3):Evd c.now e F1 8 true true (c.hd) (0) ([⟨2,c.ci,co (Op.bytes c.ao)⟩]) (bj c ⟨e,F1,F2,[],[]⟩ (im 6)):=by
 have q:bj c ⟨e,F1,F2,[],[]⟩ (im 6)=⟨fm c [mO,mP,pY] 8 ({(kq c.now (fi ({(e)with tr:=5})))with fl:=0}),dv ({(e)with tr:=5}),c.hd,[⟨1,(({(e)with tr:=5}).id+1)%256,co (Op.bytes (dv ({(e)with tr:=5})))⟩,⟨2,c.ci,co (Op.bytes c.ao)⟩],[],0⟩:=by
  unfold bj;dsimp only;rw[h,Gb];kernel_rfl
 rw[q];exact⟨rfl,rfl,⟨rfl,rfl,rfl,rfl,rfl,rfl⟩,⟨rfl,rfl,rfl,rfl,rfl,rfl⟩,rfl,rfl,oR [mO,mP,pY] (c.now+3) (c.now+3) e.du true true (by simp[yl]) (rfl),rfl,rfl,rfl,rfl⟩
theorem Gd:bO 6 (im 6)=(8,[pY],0):=by kernel_rfl
theorem Gf(c:Cx)(e:En)(F1 F2:List Op.Opt)(h:e.st=6):Evd c.now e F1 8 false false (c.hd) (0) ([⟨2,c.ci,co (Op.bytes c.ao)⟩]) (bj c ⟨e,F1,F2,[],[]⟩ (im 6)):=by
 have q:bj c ⟨e,F1,F2,[],[]⟩ (im 6)=⟨fm c [pY] 8 ({(e)with fl:=0}),F1,c.hd,[⟨2,c.ci,co (Op.bytes c.ao)⟩],[],0⟩:=by
  unfold bj;dsimp only;rw[h,Gd];kernel_rfl
 rw[q];exact⟨rfl,rfl,⟨rfl,rfl,rfl,rfl,rfl,rfl⟩,⟨rfl,rfl,rfl,rfl,rfl,rfl⟩,rfl,rfl,oR [pY] (c.now+3) (e.du) e.du false false (by simp[AK]) (rfl),rfl,rfl,rfl,rfl⟩
theorem Gg:bO 7 (im 6)=(9,[pY,dz],0):=by kernel_rfl
theorem Gi(c:Cx)(e:En)(F1 F2:List Op.Opt)(h:e.st=7):Evd c.now e F1 9 false false (c.hd) (0) ([⟨2,c.ci,co (Op.bytes c.ao)⟩]) (bj c ⟨e,F1,F2,[],[]⟩ (im 6)):=by
 have q:bj c ⟨e,F1,F2,[],[]⟩ (im 6)=⟨fm c [pY,dz] 9 (sF (iJ (F1)) (iJ (c.hd)) ({(e)with fl:=0})),F1,c.hd,[⟨2,c.ci,co (Op.bytes c.ao)⟩],[dz],0⟩:=by
  unfold bj;dsimp only;rw[h,Gg];kernel_rfl
 rw[q];exact⟨rfl,rfl,⟨rfl,rfl,rfl,rfl,rfl,rfl⟩,⟨rfl,rfl,rfl,rfl,rfl,rfl⟩,rfl,rfl,rfl,rfl,rfl,rfl,rfl⟩
theorem Gj:bO 8 (im 6)=(8,[pY],0):=by kernel_rfl
theorem Gk(c:Cx)(e:En)(F1 F2:List Op.Opt)(h:e.st=8):Evd c.now e F1 8 false false (c.hd) (0) ([⟨2,c.ci,co (Op.bytes c.ao)⟩]) (bj c ⟨e,F1,F2,[],[]⟩ (im 6)):=by
 have q:bj c ⟨e,F1,F2,[],[]⟩ (im 6)=⟨fm c [pY] 8 ({(e)with fl:=0}),F1,c.hd,[⟨2,c.ci,co (Op.bytes c.ao)⟩],[],0⟩:=by
  unfold bj;dsimp only;rw[h,Gj];kernel_rfl
 rw[q];exact⟨rfl,rfl,⟨rfl,rfl,rfl,rfl,rfl,rfl⟩,⟨rfl,rfl,rfl,rfl,rfl,rfl⟩,rfl,rfl,oR [pY] (c.now+3) (e.du) e.du false false (by simp[AK]) (rfl),rfl,rfl,rfl,rfl⟩
theorem Gl:bO 9 (im 6)=(8,[bL,mP,pY],0):=by kernel_rfl
theorem Gm(c:Cx)(e:En)(F1 F2:List Op.Opt)(h:e.st=9):Evd c.now e F1 8 false true (c.hd) (0) ([⟨2,c.ci,co (Op.bytes c.ao)⟩]) (bj c ⟨e,F1,F2,[],[]⟩ (im 6)):=by
 have q:bj c ⟨e,F1,F2,[],[]⟩ (im 6)=⟨fm c [bL,mP,pY] 8 ({(kq c.now (fi (gD (e))))with fl:=0}),dv (gD (e)),c.hd,[⟨1,((gD (e)).id+1)%256,co (Op.bytes (dv (gD (e))))⟩,⟨2,c.ci,co (Op.bytes c.ao)⟩],[bL],0⟩:=by
  unfold bj;dsimp only;rw[h,Gl];kernel_rfl
 rw[q];exact⟨rfl,rfl,⟨rfl,rfl,rfl,rfl,rfl,rfl⟩,⟨rfl,rfl,rfl,rfl,rfl,rfl⟩,rfl,rfl,oR [bL,mP,pY] (c.now+3) (c.now+3) e.du false true (by simp[AK,ph,ym]) (rfl),rfl,rfl,rfl,rfl⟩
theorem Gn:bO 3 (im 7)=(6,[mO,mP,pZ],0):=by kernel_rfl
theorem Gp(c:Cx)(e:En)(F1 F2:List Op.Opt)(h:e.st=3):Evd c.now e F1 6 true true (F2) ((if c.ac=3 then min 3 (e.fl+1)else e.fl)) ([⟨c.ac,c.ci,co (Op.bytes c.ao)⟩]) (bj c ⟨e,F1,F2,[],[]⟩ (im 7)):=by
 have q:bj c ⟨e,F1,F2,[],[]⟩ (im 7)=⟨fm c [mO,mP,pZ] 6 ({(kq c.now (fi ({(e)with tr:=5})))with fl:=if c.ac=3 then min 3 ((kq c.now (fi ({(e)with tr:=5}))).fl+1)else(kq c.now (fi ({(e)with tr:=5}))).fl}),dv ({(e)with tr:=5}),F2,[⟨1,(({(e)with tr:=5}).id+1)%256,co (Op.bytes (dv ({(e)with tr:=5})))⟩,⟨c.ac,c.ci,co (Op.bytes c.ao)⟩],[],0⟩:=by
  unfold bj;dsimp only;rw[h,Gn];kernel_rfl
 rw[q];exact⟨rfl,rfl,⟨rfl,rfl,rfl,rfl,rfl,rfl⟩,⟨rfl,rfl,rfl,rfl,rfl,rfl⟩,rfl,rfl,oR [mO,mP,pZ] (c.now+3) (c.now+3) e.du true true (by simp[yl]) (rfl),rfl,rfl,rfl,rfl⟩
theorem Gq:bO 6 (im 7)=(6,[pZ],0):=by kernel_rfl
theorem Gr(c:Cx)(e:En)(F1 F2:List Op.Opt)(h:e.st=6):Evd c.now e F1 6 false false (F2) ((if c.ac=3 then min 3 (e.fl+1)else e.fl)) ([⟨c.ac,c.ci,co (Op.bytes c.ao)⟩]) (bj c ⟨e,F1,F2,[],[]⟩ (im 7)):=by
 have q:bj c ⟨e,F1,F2,[],[]⟩ (im 7)=⟨fm c [pZ] 6 ({(e)with fl:=if c.ac=3 then min 3 ((e).fl+1)else(e).fl}),F1,F2,[⟨c.ac,c.ci,co (Op.bytes c.ao)⟩],[],0⟩:=by
  unfold bj;dsimp only;rw[h,Gq];kernel_rfl
 rw[q];exact⟨rfl,rfl,⟨rfl,rfl,rfl,rfl,rfl,rfl⟩,⟨rfl,rfl,rfl,rfl,rfl,rfl⟩,rfl,rfl,oR [pZ] (c.now+3) (e.du) e.du false false (by simp[Ab]) (rfl),rfl,rfl,rfl,rfl⟩
theorem Gt:bO 7 (im 7)=(7,[pZ],0):=by kernel_rfl
theorem Gu(c:Cx)(e:En)(F1 F2:List Op.Opt)(h:e.st=7):Evd c.now e F1 7 false false (F2) ((if c.ac=3 then min 3 (e.fl+1)else e.fl)) ([⟨c.ac,c.ci,co (Op.bytes c.ao)⟩]) (bj c ⟨e,F1,F2,[],[]⟩ (im 7)):=by
 have q:bj c ⟨e,F1,F2,[],[]⟩ (im 7)=⟨fm c [pZ] 7 ({(e)with fl:=if c.ac=3 then min 3 ((e).fl+1)else(e).fl}),F1,F2,[⟨c.ac,c.ci,co (Op.bytes c.ao)⟩],[],0⟩:=by
  unfold bj;dsimp only;rw[h,Gt];kernel_rfl
 rw[q];exact⟨rfl,rfl,⟨rfl,rfl,rfl,rfl,rfl,rfl⟩,⟨rfl,rfl,rfl,rfl,rfl,rfl⟩,rfl,rfl,oR [pZ] (c.now+3) (e.du) e.du false false (by simp[Ab]) (rfl),rfl,rfl,rfl,rfl⟩
theorem Gv:bO 8 (im 7)=(6,[pZ],0):=by kernel_rfl
theorem Gx(c:Cx)(e:En)(F1 F2:List Op.Opt)(h:e.st=8):Evd c.now e F1 6 false false (F2) ((if c.ac=3 then min 3 (e.fl+1)else e.fl)) ([⟨c.ac,c.ci,co (Op.bytes c.ao)⟩]) (bj c ⟨e,F1,F2,[],[]⟩ (im 7)):=by
 have q:bj c ⟨e,F1,F2,[],[]⟩ (im 7)=⟨fm c [pZ] 6 ({(e)with fl:=if c.ac=3 then min 3 ((e).fl+1)else(e).fl}),F1,F2,[⟨c.ac,c.ci,co (Op.bytes c.ao)⟩],[],0⟩:=by
  unfold bj;dsimp only;rw[h,Gv];kernel_rfl
 rw[q];exact⟨rfl,rfl,⟨rfl,rfl,rfl,rfl,rfl,rfl⟩,⟨rfl,rfl,rfl,rfl,rfl,rfl⟩,rfl,rfl,oR [pZ] (c.now+3) (e.du) e.du false false (by simp[Ab]) (rfl),rfl,rfl,rfl,rfl⟩
theorem Gy:bO 9 (im 7)=(6,[bL,mP,pZ],0):=by kernel_rfl
theorem Gz(c:Cx)(e:En)(F1 F2:List Op.Opt)(h:e.st=9):Evd c.now e F1 6 false true (F2) ((if c.ac=3 then min 3 (e.fl+1)else e.fl)) ([⟨c.ac,c.ci,co (Op.bytes c.ao)⟩]) (bj c ⟨e,F1,F2,[],[]⟩ (im 7)):=by
 have q:bj c ⟨e,F1,F2,[],[]⟩ (im 7)=⟨fm c [bL,mP,pZ] 6 ({(kq c.now (fi (gD (e))))with fl:=if c.ac=3 then min 3 ((kq c.now (fi (gD (e)))).fl+1)else(kq c.now (fi (gD (e)))).fl}),dv (gD (e)),F2,[⟨1,((gD (e)).id+1)%256,co (Op.bytes (dv (gD (e))))⟩,⟨c.ac,c.ci,co (Op.bytes c.ao)⟩],[bL],0⟩:=by
  unfold bj;dsimp only;rw[h,Gy];kernel_rfl
 rw[q];exact⟨rfl,rfl,⟨rfl,rfl,rfl,rfl,rfl,rfl⟩,⟨rfl,rfl,rfl,rfl,rfl,rfl⟩,rfl,rfl,oR [bL,mP,pZ] (c.now+3) (c.now+3) e.du false true (by simp[Ab,ph,ym]) (rfl),rfl,rfl,rfl,rfl⟩
theorem GA:bO 3 (im 8)=(3,[p5],0):=by kernel_rfl
theorem GB(c:Cx)(e:En)(F1 F2:List Op.Opt)(h:e.st=3):Evd c.now e F1 3 false false (F2) (e.fl) ([⟨6,c.ci,⟨#[]⟩⟩]) (bj c ⟨e,F1,F2,[],[]⟩ (im 8)):=by
 have q:bj c ⟨e,F1,F2,[],[]⟩ (im 8)=⟨fm c [p5] 3 (e),F1,F2,[⟨6,c.ci,⟨#[]⟩⟩],[],0⟩:=by
  unfold bj;dsimp only;rw[h,GA];kernel_rfl
 rw[q];exact⟨rfl,rfl,⟨rfl,rfl,rfl,rfl,rfl,rfl⟩,⟨rfl,rfl,rfl,rfl,rfl,rfl⟩,rfl,rfl,rfl,rfl,rfl,rfl,rfl⟩
theorem GC:bO 6 (im 8)=(7,[mO],0):=by kernel_rfl
theorem GD(c:Cx)(e:En)(F1 F2:List Op.Opt)(h:e.st=6):Evd c.now e F1 7 true false (F2) (e.fl) ([]) (bj c ⟨e,F1,F2,[],[]⟩ (im 8)):=by
 have q:bj c ⟨e,F1,F2,[],[]⟩ (im 8)=⟨fm c [mO] 7 ({(e)with tr:=5}),F1,F2,[],[],0⟩:=by
  unfold bj;dsimp only;rw[h,GC];kernel_rfl
 rw[q];exact⟨rfl,rfl,⟨rfl,rfl,rfl,rfl,rfl,rfl⟩,⟨rfl,rfl,rfl,rfl,rfl,rfl⟩,rfl,rfl,oR [mO] (c.now+3) (e.du) e.du true false (by simp[yl]) (rfl),rfl,rfl,rfl,rfl⟩
theorem GE:bO 7 (im 8)=(6,[mP],0):=by kernel_rfl
theorem GF(c:Cx)(e:En)(F1 F2:List Op.Opt)(h:e.st=7):Evd c.now e F1 6 false true (F2) (e.fl) ([]) (bj c ⟨e,F1,F2,[],[]⟩ (im 8)):=by
 have q:bj c ⟨e,F1,F2,[],[]⟩ (im 8)=⟨fm c [mP] 6 (kq c.now (fi (e))),dv (e),F2,[⟨1,((e).id+1)%256,co (Op.bytes (dv (e)))⟩],[],0⟩:=by
  unfold bj;dsimp only;rw[h,GE];kernel_rfl
 rw[q];exact⟨rfl,rfl,⟨rfl,rfl,rfl,rfl,rfl,rfl⟩,⟨rfl,rfl,rfl,rfl,rfl,rfl⟩,rfl,rfl,oR [mP] (c.now+3) (c.now+3) e.du false true (by simp[ph]) (rfl),rfl,rfl,rfl,rfl⟩
theorem GG:bO 8 (im 8)=(9,[mO,dz],0):=by kernel_rfl
theorem GH(c:Cx)(e:En)(F1 F2:List Op.Opt)(h:e.st=8):Evd c.now e F1 9 true false (F2) (e.fl) ([]) (bj c ⟨e,F1,F2,[],[]⟩ (im 8)):=by
 have q:bj c ⟨e,F1,F2,[],[]⟩ (im 8)=⟨fm c [mO,dz] 9 (sF (iJ (F1)) (iJ (F2)) ({(e)with tr:=5})),F1,F2,[],[dz],0⟩:=by
  unfold bj;dsimp only;rw[h,GG];kernel_rfl
 rw[q];exact⟨rfl,rfl,⟨rfl,rfl,rfl,rfl,rfl,rfl⟩,⟨rfl,rfl,rfl,rfl,rfl,rfl⟩,rfl,rfl,rfl,rfl,rfl,rfl,rfl⟩
theorem GI:bO 9 (im 8)=(6,[bL,mP],0):=by kernel_rfl
theorem GJ(c:Cx)(e:En)(F1 F2:List Op.Opt)(h:e.st=9):Evd c.now e F1 6 false true (F2) (e.fl) ([]) (bj c ⟨e,F1,F2,[],[]⟩ (im 8)):=by
 have q:bj c ⟨e,F1,F2,[],[]⟩ (im 8)=⟨fm c [bL,mP] 6 (kq c.now (fi (gD (e)))),dv (gD (e)),F2,[⟨1,((gD (e)).id+1)%256,co (Op.bytes (dv (gD (e))))⟩],[bL],0⟩:=by
  unfold bj;dsimp only;rw[h,GI];kernel_rfl
 rw[q];exact⟨rfl,rfl,⟨rfl,rfl,rfl,rfl,rfl,rfl⟩,⟨rfl,rfl,rfl,rfl,rfl,rfl⟩,rfl,rfl,oR [bL,mP] (c.now+3) (c.now+3) e.du false true (by simp[ph,ym]) (rfl),rfl,rfl,rfl,rfl⟩
theorem GK:bO 3 (im 9)=(3,[p5],0):=by kernel_rfl
theorem GL(c:Cx)(e:En)(F1 F2:List Op.Opt)(h:e.st=3):Evd c.now e F1 3 false false (F2) (e.fl) ([⟨6,c.ci,⟨#[]⟩⟩]) (bj c ⟨e,F1,F2,[],[]⟩ (im 9)):=by
 have q:bj c ⟨e,F1,F2,[],[]⟩ (im 9)=⟨fm c [p5] 3 (e),F1,F2,[⟨6,c.ci,⟨#[]⟩⟩],[],0⟩:=by
  unfold bj;dsimp only;rw[h,GK];kernel_rfl
 rw[q];exact⟨rfl,rfl,⟨rfl,rfl,rfl,rfl,rfl,rfl⟩,⟨rfl,rfl,rfl,rfl,rfl,rfl⟩,rfl,rfl,rfl,rfl,rfl,rfl,rfl⟩
theorem GM:bO 6 (im 9)=(6,[mO,mP],0):=by kernel_rfl
theorem GN(c:Cx)(e:En)(F1 F2:List Op.Opt)(h:e.st=6):Evd c.now e F1 6 true true (F2) (e.fl) ([]) (bj c ⟨e,F1,F2,[],[]⟩ (im 9)):=by
 have q:bj c ⟨e,F1,F2,[],[]⟩ (im 9)=⟨fm c [mO,mP] 6 (kq c.now (fi ({(e)with tr:=5}))),dv ({(e)with tr:=5}),F2,[⟨1,(({(e)with tr:=5}).id+1)%256,co (Op.bytes (dv ({(e)with tr:=5})))⟩],[],0⟩:=by
  unfold bj;dsimp only;rw[h,GM];kernel_rfl
 rw[q];exact⟨rfl,rfl,⟨rfl,rfl,rfl,rfl,rfl,rfl⟩,⟨rfl,rfl,rfl,rfl,rfl,rfl⟩,rfl,rfl,oR [mO,mP] (c.now+3) (c.now+3) e.du true true (by simp[yl]) (rfl),rfl,rfl,rfl,rfl⟩
theorem GO:bO 7 (im 9)=(6,[mP],0):=by kernel_rfl
theorem GP(c:Cx)(e:En)(F1 F2:List Op.Opt)(h:e.st=7):Evd c.now e F1 6 false true (F2) (e.fl) ([]) (bj c ⟨e,F1,F2,[],[]⟩ (im 9)):=by
 have q:bj c ⟨e,F1,F2,[],[]⟩ (im 9)=⟨fm c [mP] 6 (kq c.now (fi (e))),dv (e),F2,[⟨1,((e).id+1)%256,co (Op.bytes (dv (e)))⟩],[],0⟩:=by
  unfold bj;dsimp only;rw[h,GO];kernel_rfl
 rw[q];exact⟨rfl,rfl,⟨rfl,rfl,rfl,rfl,rfl,rfl⟩,⟨rfl,rfl,rfl,rfl,rfl,rfl⟩,rfl,rfl,oR [mP] (c.now+3) (c.now+3) e.du false true (by simp[ph]) (rfl),rfl,rfl,rfl,rfl⟩
theorem GQ:bO 8 (im 9)=(8,[mO,mP],0):=by kernel_rfl
theorem GR(c:Cx)(e:En)(F1 F2:List Op.Opt)(h:e.st=8):Evd c.now e F1 8 true true (F2) (e.fl) ([]) (bj c ⟨e,F1,F2,[],[]⟩ (im 9)):=by
 have q:bj c ⟨e,F1,F2,[],[]⟩ (im 9)=⟨fm c [mO,mP] 8 (kq c.now (fi ({(e)with tr:=5}))),dv ({(e)with tr:=5}),F2,[⟨1,(({(e)with tr:=5}).id+1)%256,co (Op.bytes (dv ({(e)with tr:=5})))⟩],[],0⟩:=by
  unfold bj;dsimp only;rw[h,GQ];kernel_rfl
 rw[q];exact⟨rfl,rfl,⟨rfl,rfl,rfl,rfl,rfl,rfl⟩,⟨rfl,rfl,rfl,rfl,rfl,rfl⟩,rfl,rfl,oR [mO,mP] (c.now+3) (c.now+3) e.du true true (by simp[yl]) (rfl),rfl,rfl,rfl,rfl⟩
theorem GS:bO 9 (im 9)=(6,[bL,mP],0):=by kernel_rfl
theorem GT(c:Cx)(e:En)(F1 F2:List Op.Opt)(h:e.st=9):Evd c.now e F1 6 false true (F2) (e.fl) ([]) (bj c ⟨e,F1,F2,[],[]⟩ (im 9)):=by
 have q:bj c ⟨e,F1,F2,[],[]⟩ (im 9)=⟨fm c [bL,mP] 6 (kq c.now (fi (gD (e)))),dv (gD (e)),F2,[⟨1,((gD (e)).id+1)%256,co (Op.bytes (dv (gD (e))))⟩],[bL],0⟩:=by
  unfold bj;dsimp only;rw[h,GS];kernel_rfl
 rw[q];exact⟨rfl,rfl,⟨rfl,rfl,rfl,rfl,rfl,rfl⟩,⟨rfl,rfl,rfl,rfl,rfl,rfl⟩,rfl,rfl,oR [bL,mP] (c.now+3) (c.now+3) e.du false true (by simp[ph,ym]) (rfl),rfl,rfl,rfl,rfl⟩
theorem EU:bO 3 (im 11)=(3,[],0):=by kernel_rfl
theorem EW(c:Cx)(e:En)(F1 F2:List Op.Opt)(h:e.st=3):Evd c.now e F1 3 false false (F2) (e.fl) ([]) (bj c ⟨e,F1,F2,[],[]⟩ (im 11)):=by
 have q:bj c ⟨e,F1,F2,[],[]⟩ (im 11)=⟨fm c [] 3 (e),F1,F2,[],[],0⟩:=by
  unfold bj;dsimp only;rw[h,EU];kernel_rfl
 rw[q];exact⟨rfl,rfl,⟨rfl,rfl,rfl,rfl,rfl,rfl⟩,⟨rfl,rfl,rfl,rfl,rfl,rfl⟩,rfl,rfl,rfl,rfl,rfl,rfl,rfl⟩
theorem EX:bO 6 (im 11)=(6,[],0):=by kernel_rfl
theorem EY(c:Cx)(e:En)(F1 F2:List Op.Opt)(h:e.st=6):Evd c.now e F1 6 false false (F2) (e.fl) ([]) (bj c ⟨e,F1,F2,[],[]⟩ (im 11)):=by
 have q:bj c ⟨e,F1,F2,[],[]⟩ (im 11)=⟨fm c [] 6 (e),F1,F2,[],[],0⟩:=by
  unfold bj;dsimp only;rw[h,EX];kernel_rfl
 rw[q];exact⟨rfl,rfl,⟨rfl,rfl,rfl,rfl,rfl,rfl⟩,⟨rfl,rfl,rfl,rfl,rfl,rfl⟩,rfl,rfl,oR [] (c.now+3) (e.du) e.du false false (rfl) (rfl),rfl,rfl,rfl,rfl⟩
theorem EZ:bO 7 (im 11)=(6,[],0):=by kernel_rfl
theorem E_(c:Cx)(e:En)(F1 F2:List Op.Opt)(h:e.st=7):Evd c.now e F1 6 false false (F2) (e.fl) ([]) (bj c ⟨e,F1,F2,[],[]⟩ (im 11)):=by
 have q:bj c ⟨e,F1,F2,[],[]⟩ (im 11)=⟨fm c [] 6 (e),F1,F2,[],[],0⟩:=by
  unfold bj;dsimp only;rw[h,EZ];kernel_rfl
 rw[q];exact⟨rfl,rfl,⟨rfl,rfl,rfl,rfl,rfl,rfl⟩,⟨rfl,rfl,rfl,rfl,rfl,rfl⟩,rfl,rfl,oR [] (c.now+3) (e.du) e.du false false (rfl) (rfl),rfl,rfl,rfl,rfl⟩
theorem Fa:bO 8 (im 11)=(8,[],0):=by kernel_rfl
theorem Fb(c:Cx)(e:En)(F1 F2:List Op.Opt)(h:e.st=8):Evd c.now e F1 8 false false (F2) (e.fl) ([]) (bj c ⟨e,F1,F2,[],[]⟩ (im 11)):=by
 have q:bj c ⟨e,F1,F2,[],[]⟩ (im 11)=⟨fm c [] 8 (e),F1,F2,[],[],0⟩:=by
  unfold bj;dsimp only;rw[h,Fa];kernel_rfl
 rw[q];exact⟨rfl,rfl,⟨rfl,rfl,rfl,rfl,rfl,rfl⟩,⟨rfl,rfl,rfl,rfl,rfl,rfl⟩,rfl,rfl,oR [] (c.now+3) (e.du) e.du false false (rfl) (rfl),rfl,rfl,rfl,rfl⟩
theorem Fc:bO 9 (im 11)=(6,[bL,mP],0):=by kernel_rfl
theorem Fd(c:Cx)(e:En)(F1 F2:List Op.Opt)(h:e.st=9):Evd c.now e F1 6 false true (F2) (e.fl) ([]) (bj c ⟨e,F1,F2,[],[]⟩ (im 11)):=by
 have q:bj c ⟨e,F1,F2,[],[]⟩ (im 11)=⟨fm c [bL,mP] 6 (kq c.now (fi (gD (e)))),dv (gD (e)),F2,[⟨1,((gD (e)).id+1)%256,co (Op.bytes (dv (gD (e))))⟩],[bL],0⟩:=by
  unfold bj;dsimp only;rw[h,Fc];kernel_rfl
 rw[q];exact⟨rfl,rfl,⟨rfl,rfl,rfl,rfl,rfl,rfl⟩,⟨rfl,rfl,rfl,rfl,rfl,rfl⟩,rfl,rfl,oR [bL,mP] (c.now+3) (c.now+3) e.du false true (by simp[ph,ym]) (rfl),rfl,rfl,rfl,rfl⟩
end Go.Proofs.YtjdgiimfpkideaaGreatDoor
