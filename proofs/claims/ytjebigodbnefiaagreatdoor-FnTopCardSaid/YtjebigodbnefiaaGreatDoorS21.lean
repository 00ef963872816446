/- WkK SpecOpt EndFr AskS -/
import Derived.Test.YtjebigodbnefiaaGreatDoorS12
import Derived.Test.YtjebigodbnefiaaGreatDoorS10
import Derived.Test.YtjebigodbnefiaaGreatDoorS14
set_option maxHeartbeats 2000000
set_option maxRecDepth 20000
namespace Go.Proofs.YtjebigodbnefiaaGreatDoor
open Go.RowKit Go.Proofs.Tryz
theorem qe (v:Value) (W:World):(Instr.typeAssert (.iface 216 v) 212 216 true).run prog W=.ok (.tuple #[v,.bool true]) W:=by kernel_rfl
theorem gm (v:Value) (W:World):(Instr.typeAssert (.iface 218 v) 212 218 true).run prog W=.ok (.tuple #[v,.bool true]) W:=by kernel_rfl
theorem cZ (v:Value) (W:World):(Instr.typeAssert (.iface 218 v) 212 216 true).run prog W=.ok (.tuple #[.agg #[.int .i64 0],.bool false]) W:=by kernel_rfl
theorem iI (v:Value) (W:World):(Instr.typeAssert (.iface 242 v) 212 216 true).run prog W=.ok (.tuple #[.agg #[.int .i64 0],.bool false]) W:=by kernel_rfl
theorem d9 (v:Value) (W:World):(Instr.typeAssert (.iface 242 v) 212 218 true).run prog W=.ok (.tuple #[.agg #[.string ⟨#[]⟩],.bool false]) W:=by kernel_rfl
theorem fX (v:Value) (W:World):(Instr.typeAssert (.iface 243 v) 212 216 true).run prog W=.ok (.tuple #[.agg #[.int .i64 0],.bool false]) W:=by kernel_rfl
theorem fA (v:Value) (W:World):(Instr.typeAssert (.iface 243 v) 212 218 true).run prog W=.ok (.tuple #[.agg #[.string ⟨#[]⟩],.bool false]) W:=by kernel_rfl
theorem eQ (v:Value) (W:World):(Instr.typeAssert (.iface 244 v) 212 216 true).run prog W=.ok (.tuple #[.agg #[.int .i64 0],.bool false]) W:=by kernel_rfl
theorem eu (v:Value) (W:World):(Instr.typeAssert (.iface 244 v) 212 218 true).run prog W=.ok (.tuple #[.agg #[.string ⟨#[]⟩],.bool false]) W:=by kernel_rfl
theorem h_ (v:Value) (W:World):(Instr.typeAssert (.iface 245 v) 212 216 true).run prog W=.ok (.tuple #[.agg #[.int .i64 0],.bool false]) W:=by kernel_rfl
theorem gG (v:Value) (W:World):(Instr.typeAssert (.iface 245 v) 212 218 true).run prog W=.ok (.tuple #[.agg #[.string ⟨#[]⟩],.bool false]) W:=by kernel_rfl
theorem fS (v:Value) (W:World):(Instr.typeAssert (.iface 246 v) 212 216 true).run prog W=.ok (.tuple #[.agg #[.int .i64 0],.bool false]) W:=by kernel_rfl
theorem fB (v:Value) (W:World):(Instr.typeAssert (.iface 246 v) 212 218 true).run prog W=.ok (.tuple #[.agg #[.string ⟨#[]⟩],.bool false]) W:=by kernel_rfl
theorem jr (v:Value) (W:World):(Instr.typeAssert (.iface 247 v) 212 216 true).run prog W=.ok (.tuple #[.agg #[.int .i64 0],.bool false]) W:=by kernel_rfl
theorem iu (v:Value) (W:World):(Instr.typeAssert (.iface 247 v) 212 218 true).run prog W=.ok (.tuple #[.agg #[.string ⟨#[]⟩],.bool false]) W:=by kernel_rfl
theorem eR (t:ByteArray):dH t=(decide (t.data.toList=[105,114,99]) || decide (t.data.toList=[122,114,99])):=by
 unfold dH;rw [ByteArray.toList_eq]
theorem lK (c:Cx) (A:List ByteArray) (st:Int) (e:En) (h:-1≤e.du):jp c.now (A.any dH) { e with st:=st }=fm c A st e:=by
 have hd:decide (e.du<0)=(e.du == -1):=by
  by_cases h1:e.du=-1
  ·rw [h1];rfl
  ·rw [beq_eq_false_iff_ne.2 h1,decide_eq_false (by omega)]
 unfold jp fm;dsimp only;rw [hd,Bool.or_comm]
theorem cJ {w:World} {o:Oper} {a:Act} {K:Act→World→Prop} {Q:Exit→Act→World→Prop} (s x:Operand)
  (ho:o.op=.call { callee:=.builtin .append,args:=#[s,x],argTypes:=#[37,37] })
  (base:Nat) (v:Value) (L:List ByteArray) (n:Nat) (hs:a.eval s=v) (hown:w.ownsRow base 9 1 v n (a_ L)) (t:ByteArray) (hx:a.eval x=.slice (some ⟨w.heap.size,0,none⟩) 1 1) (hlen:n≤1000000) (hbase:base≤w.heap.size)
  (h:∀ v' w',w'.ownsRow base 9 1 v' (n+1) (a_ (L ++ [t]))→(w.alloc (.cells #[.string t] 9)).grownBy w' v.ownBlock→K (a.put o.dst v') w'):o.wp prog a (w.alloc (.cells #[.string t] 9)) K Q:=by
 obtain ⟨i0,hi0,hz0,hz1,hz2⟩:=yN;refine wp_append_own _ s x 37 ho base 9 i0 _ 1 16 underlying37 hi0 hz0 hz1 hz2 rfl (by decide) v n (a_ L) hs (hown.alloc _) ⟨w.heap.size,0,none⟩ 1 1 [.string t] hx rfl ?_ ?_ ?_ ?_ ?_ ?_
 ·intro i u hu;rw [Addr.add_lit,Nat.zero_add,World.cell?_alloc_at _ _ _ _ rfl,← hu];simp
 ·intro u hu;simp only [List.mem_cons,List.not_mem_nil,or_false] at hu;rw [hu];rfl
 ·unfold maxLen;omega
 ·omega
 ·simp;omega
 ·intro v' w2 hown2 hg2 _;refine h v' w2 ?_ hg2;rw [fT];exact hown2
theorem bJ {P:Program} {o:Oper} {a:Act} {w w':World} {K:Act→World→Prop} {Q:Exit→Act→World→Prop} {v:Value} (hrun:(execOp a.eval o).run P w=.ok (.value v) w') (h:K (a.put o.dst v) w'):Oper.wp P o a w K Q:=by
 unfold Oper.wp;rw [hrun,Oper.upon_value];exact h
theorem Lay.free {T:TypeId} {w0 w1:World} {B:Nat} {c:Cx} {s:St} {v1 v2:Value} {q:World} (h:Lay T w0 w1 B c s v1 v2 (.slice none 0 0) (.slice none 0 0) q) (Y:Nat) {old:Array Value} (cs:Array Value) {T':TypeId} (hY:q.heap[Y]?=some (.cells old T')) (nB:B≠Y) (hT1:T'≠27) (hw:w0.heap.size≤Y) (hs:s.sn=[]) (ht:s.tl=[]) :
  Lay T w0 (q.setRow Y cs) B c s v1 v2 (.slice none 0 0) (.slice none 0 0) (q.setRow Y cs):=by
 have hk:∀ k,k≠Y→(q.setRow Y cs).heap[k]?=q.heap[k]?:=fun k hk=>by unfold World.setRow;simp [Array.getElem?_modify,Ne.symm hk]
 exact ⟨(hk B nB).trans h.row,ak h.o1 fun g hg=>hk g fun e=>aq h.o1 hY hT1 (e ▸ hg),ak h.o2 fun g hg=>hk g fun e=>aq h.o2 hY hT1 (e ▸ hg),by rw [hs];exact World.ownsRow_nil _ _ _ _,by rw [ht];exact World.ownsRow_nil _ _ _ _,ak h.oh fun g hg=>hk g fun e=>aq h.oh hY hT1 (e ▸ hg),bS h.ha hY hT1 fun k _=>hk k,h.hB,h.tt,h.ap,h.aph,am h.low hw _,Nr.refl _ _⟩
def gd (wide:Bool):Hd.Gd:=⟨fun l=>rp (co l) wide,de wide⟩
def y_ (fs F:List Hd.Fd):List Hd.Fd:=if fs.length<400 then fs ++ F else fs
theorem eo (fs:List Hd.Fd):y_ fs []=fs:=by unfold y_;split<;>simp
theorem gQ {w:World} {B g:Nat} {cs:Array Value} {wide long:Bool} {held:List UInt8} {fs:List Hd.Fd} {T:TypeId} (hB:w.heap[B]?=some (.cells cs T)) (hd:Dc cs g wide long held fs) (k cap:Nat) (hk:k≤held.length) :
  (convert 22 9 (.slice (some ⟨B,3,none⟩) k cap)).run prog w=.ok (.string (co (held.take k))) w:=by
 have hl:(mp (held.take k)).length=k:=by simp [mp];omega
 rw [← oV];refine run_convert_bytes_arg (P:=prog) w 22 5 underlying22 underlying5 B 3 k cap (mp (held.take k)) hl (fun i hi=>?_) 9 underlying9;have hi2:i<held.length:=by omega
 rw [cr hB,hd.hv i held[i] (List.getElem?_eq_getElem hi2)];simp [mp,List.getD,hi,hi2]
theorem Bm (w:World) (B g:Nat) (wide long:Bool) (held:List UInt8) (fs:List Hd.Fd) (h:Dw w B g wide long held fs) (hT:Lib.Utf8Tabs 2 3 w) :
  Calls prog 137 #[.pointer (some ⟨B,0,none⟩)] w fun e w'=>e=.returned (.tuple #[]) ∧
   Dw w' B g wide false [] (y_ fs (Hd.endOf (gd wide) ⟨true,false,long,held⟩))∧Near B w w':=by
 have hBw:=h.lt;have HW:=aa h;obtain ⟨cs,hB,hd⟩:=h;have e0:w.cell? ⟨B,0,none⟩=some (.bool wide):=by rw [cr hB];exact hd.c0
 have e1:w.cell? ⟨B,1,none⟩=some (.bool long):=by rw [cr hB];exact hd.c1
 have e2:w.cell? ⟨B,307,none⟩=some (.int .i64 held.length):=by rw [cr hB];exact hd.cz
 have hl:=hd.hl;have HB:=aa hB;have HD:=aa hd;have HS:=aa (vx wide);have hk4:=jh wide;by_cases h0:held=[]∧long=false
 ·obtain ⟨rfl,rfl⟩:=h0;rw [show Hd.endOf (gd wide) ⟨true,false,false,[]⟩=[] from rfl,eo];clear hB hd;go_enter func137,ntmps137
  go_wp2
  refine bodyPost_ret (v:=.tuple #[]) (by simp [results,results137,go_sem]) rfl ⟨rfl,uh HW,Near.refl _ _⟩
 ·cases long
  ·have hz:¬ held.length=0:=fun e=>h0 ⟨List.eq_nil_of_length_eq_zero e,rfl⟩
   have d0:((held.length:Int) == 0)=false:=beq_eq_false_iff_ne.2 (by omega);by_cases hc:held.length≤de wide
   ·have hE:Hd.endOf (gd wide) ⟨true,false,false,held⟩=[⟨3,[]⟩]:=by
     simp only [Hd.endOf];rw [if_neg (by simp),if_neg (by simp),if_neg (by simpa using h0),if_neg (by simp),if_pos (show held.length≤(gd wide).k from hc)]
    rw [hE];have C:Hid (∀ v,Dw v B g wide false held fs→Calls prog 139 #[.pointer (some ⟨B,0,none⟩),.agg #[.int .i64 3,.string ⟨#[]⟩]] v fun e w'=>e=.returned (.tuple #[])∧Dw w' B g wide false [] (if fs.length<400 then fs ++ [⟨3,[]⟩] else fs)∧Near B v w'):=aa fun v hv=>om v B g wide false held fs ⟨3,[]⟩ hv
    generalize de wide=k at *;have d1:(held.length:Int) - (k:Int)<1:=by omega
    clear hB hd hE h0;go_enter func137,ntmps137
    go_wp2_with fail
    go_quiet (first
     | (go_at_call 36;refine Calls.quiet_of_same (uh HS _)))
    go_wp2_with fail
    refine (uh C (w.drewN nq) ((uh HW).same rfl)).mono ?_;rintro e w2 ⟨rfl,hw2,hn2⟩;have HN:Hid (Near B w w2):=aa ⟨hn2.os,hn2.tape,hn2.output,hn2.size,hn2.block⟩;clear hn2;go_wp2
    refine bodyPost_end (v:=.tuple #[]) (by simp [results,results137,go_sem]) rfl ⟨rfl,hw2,uh HN⟩
   ·have hkl:de wide<held.length:=by omega
    obtain ⟨m,hm⟩:∃ m:Nat,held.length=m+de wide:=⟨held.length - de wide,by omega⟩;have hG:Hid (∀ v,Lib.Utf8Tabs 2 3 v→Calls prog 161 #[.string (co held),.bool wide] v fun e w'=>e=.returned (.bool ((gd wide).good held))∧Below v.heap.size v w') :=
     aa fun v hv=>og (co held) wide v (by rw [eJ];unfold maxLen;omega) hv
    have hE:Hd.endOf (gd wide) ⟨true,false,false,held⟩=(if (gd wide).good held then [⟨1,held.take m⟩] else [⟨2,[]⟩]):=by
     simp only [Hd.endOf];rw [if_neg (by simp),if_neg (by simp),if_neg (by simpa using h0),if_neg (by simp),if_neg (show ¬ held.length≤(gd wide).k from hc),show held.length - (gd wide).k=m from by show held.length - de wide=m;omega];cases (gd wide).good held<;>rfl
    rw [hE];clear hE;have HT:=aa hT;have HB':=HB;have HG:=aa fun (v:World) (hv:v.heap[B]?=w.heap[B]?)=>show (convert 22 9 (.slice (some ⟨B,3,none⟩) held.length 304)).run prog v=.ok (.string (co held)) v from by
     have:=gQ (hv.trans hB) hd held.length 304 (zD _)
     rw [List.take_length] at this;exact this
    have HM:=aa fun (v:World) (hv:v.heap[B]?=w.heap[B]?)=>show (convert 22 9 (.slice (some ⟨B,3,none⟩) m 304)).run prog v=.ok (.string (co (held.take m))) v from
     gQ (hv.trans hB) hd m 304 (by omega)
    generalize de wide=k at *;have d1:¬ ((held.length:Int) - (k:Int)<1):=by omega
    have d2:(held.length:Int) - (k:Int)=(m:Int):=by omega
    have d3:(m:Int)≤304:=by omega
    have d4:(held.length:Int)≤304:=by omega
    have d5:¬ ((m:Int)<1):=by omega
    have C1:Hid (∀ v,Dw v B g wide false held fs→Calls prog 139 #[.pointer (some ⟨B,0,none⟩),.agg #[.int .i64 1,.string (co (held.take m))]] v fun e w'=>e=.returned (.tuple #[])∧Dw w' B g wide false [] (if fs.length<400 then fs ++ [⟨1,held.take m⟩] else fs)∧Near B v w'):=aa fun v hv=>om v B g wide false held fs ⟨1,held.take m⟩ hv
    have C2:Hid (∀ v,Dw v B g wide false held fs→Calls prog 139 #[.pointer (some ⟨B,0,none⟩),.agg #[.int .i64 2,.string ⟨#[]⟩]] v fun e w'=>e=.returned (.tuple #[])∧Dw w' B g wide false [] (if fs.length<400 then fs ++ [⟨2,[]⟩] else fs)∧Near B v w'):=aa fun v hv=>om v B g wide false held fs ⟨2,[]⟩ hv
    clear hB hd h0 hT hc hm;go_enter func137,ntmps137
    go_wp2_with fail
    go_quiet (first
     | (go_at_call 36;refine Calls.quiet_of_same (uh HS _)))
    go_wp2_with fail
    refine aI (fun v=>v.heap[B]?=w.heap[B]?∧B<v.heap.size∧Near B w v∧Lib.Utf8Tabs 2 3 v.drew) ⟨rfl,hBw,⟨rfl,rfl,rfl,zD _,fun _ _ _=>rfl⟩,Utf8Tabs_below (uh HT) ⟨rfl,rfl,rfl,zD _,fun _ _=>rfl⟩⟩ ?_;have C1':=C1;have C2':=C2;clear e0 e1 e2 C1 C2 HT HB HW hBw;rintro v ⟨hvB,hBv,hnv,hTv⟩;have hBv2:v.heap[B]?=some (.cells cs 168):=hvB.trans (uh HB');have e0:v.cell? ⟨B,0,none⟩=some (.bool wide):=by rw [cr hBv2];exact (uh HD).c0
    have e2:v.cell? ⟨B,307,none⟩=some (.int .i64 held.length):=by rw [cr hBv2];exact (uh HD).cz
    have hcv1:=uh HG v hvB;have hcv2:=uh HG v.drew hvB;have HTv:=aa hTv;have HNv:=aa hnv;have HBv:=aa hBv2;clear hTv hnv hBv2 hvB
    have KS:Hid (∀ u,u.heap[B]?=v.heap[B]?→u.cell? ⟨B,0,none⟩=some (.bool wide)∧u.cell? ⟨B,307,none⟩=some (.int .i64 held.length) ∧
      (convert 22 9 (.slice (some ⟨B,3,none⟩) held.length 304)).run prog u=.ok (.string (co held)) u):=by
     refine aa fun u hu=>?_
     have hu2:=hu.trans (uh HBv);exact ⟨by rw [cr hu2];exact (uh HD).c0,by rw [cr hu2];exact (uh HD).cz,uh HG u (hu2.trans (uh HB').symm)⟩
    have hS1:=uh KS v.drew rfl;clear hcv1 hcv2 e0 e2;cases hgo:(gd wide).good held
    all_goals
     rw [hgo] at hG
     go_region_held (fun u=>u.cell? ⟨B,0,none⟩=some (.bool wide)∧u.cell? ⟨B,307,none⟩=some (.int .i64 held.length) ∧
       (convert 22 9 (.slice (some ⟨B,3,none⟩) held.length 304)).run prog u=.ok (.string (co held)) u) (first | exact hS1 | assumption) (first
      | (go_at_call 161;refine (uh hG _ (uh HTv)).mono ?_;rintro e w2 ⟨rfl,hb2⟩;have hS2:=uh KS w2 (hb2.block B hBv)))
    case' false=>have HC:=C2'
    case' true=>have HC:=C1'
    all_goals
     have hw2B:w2.heap[B]?=v.heap[B]?:=hb2.block B hBv;have hDw2:Dw w2 B g wide false held fs:=⟨cs,hw2B.trans (uh HBv),uh HD⟩;have HN2:Hid (Near B w w2):=aa ((uh HNv).drew.of_below hb2);have hcv3:=uh HM w2 (hw2B.trans ((uh HBv).trans (uh HB').symm));clear hb2 hS1 hS2 hw2B;go_wp2_with fail
     refine (uh HC w2 hDw2).mono ?_;rintro e w3 ⟨rfl,hw3,hn3⟩;have HN3:=aa ((uh HN2).trans hn3);have HW3:=aa hw3;clear hn3 hw3;go_wp2
     all_goals refine bodyPost_end (v:=.tuple #[]) (by simp [results,results137,go_sem]) rfl ⟨rfl,uh HW3,uh HN3⟩
  ·have hE:Hd.endOf (gd wide) ⟨true,false,true,held⟩=[⟨5,[]⟩]:=by
    simp only [Hd.endOf];rw [if_neg (by simp),if_neg (by simp),if_neg (by simp),if_pos trivial]
   rw [hE];have C:Hid (∀ v,Dw v B g wide true held fs→Calls prog 139 #[.pointer (some ⟨B,0,none⟩),.agg #[.int .i64 5,.string ⟨#[]⟩]] v fun e w'=>e=.returned (.tuple #[])∧Dw w' B g wide false [] (if fs.length<400 then fs ++ [⟨5,[]⟩] else fs)∧Near B v w'):=aa fun v hv=>om v B g wide true held fs ⟨5,[]⟩ hv
   generalize de wide=k at *;clear hB hd hE h0;by_cases hz:held.length=0
   case' pos=>have d0:((held.length:Int) == 0)=true:=beq_iff_eq.2 (by omega)
   case' neg=>have d0:((held.length:Int) == 0)=false:=beq_eq_false_iff_ne.2 (by omega)
   all_goals
    go_enter func137,ntmps137
    go_wp2_with fail
    go_quiet (first
     | (go_at_call 36;refine Calls.quiet_of_same (uh HS _)))
    go_wp2_with fail
    refine (uh C (w.drewN nq) ((uh HW).same rfl)).mono ?_;rintro e w2 ⟨rfl,hw2,hn2⟩;have HN:Hid (Near B w w2):=aa ⟨hn2.os,hn2.tape,hn2.output,hn2.size,hn2.block⟩;clear hn2;go_wp2
    refine bodyPost_end (v:=.tuple #[]) (by simp [results,results137,go_sem]) rfl ⟨rfl,hw2,uh HN⟩
end Go.Proofs.YtjebigodbnefiaaGreatDoor
