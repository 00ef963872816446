/- AskL WkM EndNw WkD WkI -/
import Derived.Test.YtahpjlbaagkdoaaGreatDoorS09
set_option maxHeartbeats 8000000
set_option maxRecDepth 100000
namespace Go.Proofs.YtahpjlbaagkdoaaGreatDoor
open Go.RowKit Go.Proofs.Tryz
def AskC (L:List Op.Opt) (base:Nat) (w0:World) (v:Value) (wx:World):Prop :=
 ∃ ad cp,v=.slice ad L.length cp∧wx.ownsRow base 116 2 (.slice ad L.length cp) L.length (ocells L)∧Below base w0 wx
theorem askS0 (m a g:Nat) (p c d:Bool):askL m a g p c d 1=askL m a g p c d 0 ++ askIf ((m:Int) != 300) 1 (put2 m):=by simp [askL,askP]
theorem askS1 (m a g:Nat) (p c d:Bool):askL m a g p c d 2=askL m a g p c d 1 ++ askIf ((a:Int) != 4294967295) 2 (put4 a):=by simp [askL,askP]
theorem askS2 (m a g:Nat) (p c d:Bool):askL m a g p c d 3=askL m a g p c d 2 ++ askIf ((g:Int) != 0) 5 (put4 g):=by simp [askL,askP]
theorem askS3 (m a g:Nat) (p c d:Bool):askL m a g p c d 4=askL m a g p c d 3 ++ askIf (p) 7 (⟨#[]⟩):=by simp [askL,askP]
theorem askS4 (m a g:Nat) (p c d:Bool):askL m a g p c d 5=askL m a g p c d 4 ++ askIf (c) 8 (⟨#[]⟩):=by simp [askL,askP]
theorem askS5 (m a g:Nat) (p c d:Bool):askL m a g p c d 6=askL m a g p c d 5 ++ askIf (d) 9 (put1 4):=by simp [askL,askP]
theorem specL05 (m a g:Nat) (p c d:Bool) (w:World) :
  Calls prog 120 #[cfgV m a g p c d] w fun e w'=>∃ v,e=.returned v∧AskC (askL m a g p c d 6) w.heap.size w v w':=by
 have HC0:Hid ((w.alloc (.cells #[.int .i64 m,.int .i64 a,.int .i64 g,.bool p,.bool c,.bool d] 24)).heap[w.heap.size]?=some (.cells #[.int .i64 m,.int .i64 a,.int .i64 g,.bool p,.bool c,.bool d] 24)):=hide (heap_alloc_last w _);have hB0:Below w.heap.size w (w.alloc (.cells #[.int .i64 m,.int .i64 a,.int .i64 g,.bool p,.bool c,.bool d] 24)):=(Below.refl _ _).alloc (Nat.le_refl _) _;have HB0:=hide hB0;have hs0:(w.alloc (.cells #[.int .i64 m,.int .i64 a,.int .i64 g,.bool p,.bool c,.bool d] 24)).heap.size=w.heap.size+1:=by simp
 have HS0:=hide hs0;clear hB0 hs0;go_enter func120,ntmps120
 go_upto_region 2 with fail
 have hA0:AskC (askL m a g p c d 0) (w.heap.size+1) (w.alloc (.cells #[.int .i64 m,.int .i64 a,.int .i64 g,.bool p,.bool c,.bool d] 24)) (.slice (some ⟨w.heap.size+1,0,none⟩) 0 0) ((w.alloc (.cells #[.int .i64 m,.int .i64 a,.int .i64 g,.bool p,.bool c,.bool d] 24)).alloc (.cells #[] 116)):=by
  refine ⟨_,_,rfl,?_,(Below.refl _ _).alloc (by rw [uh HS0];exact Nat.le_refl _) _⟩;have:=World.ownsRow_lit (w.alloc (.cells #[.int .i64 m,.int .i64 a,.int .i64 g,.bool p,.bool c,.bool d] 24)) (base:=w.heap.size+1) (e:=116) (size:=2) #[] 0 (by rw [uh HS0];exact Nat.le_refl _) (Nat.zero_le _) rfl
  rw [uh HS0] at this;exact this
 refine gen_world (fun q=>AskC (askL m a g p c d 0) (w.heap.size+1) (w.alloc (.cells #[.int .i64 m,.int .i64 a,.int .i64 g,.bool p,.bool c,.bool d] 24)) (.slice (some ⟨w.heap.size+1,0,none⟩) 0 0) q) hA0 ?_;clear hA0;rintro q0 hA;generalize (w.alloc (.cells #[.int .i64 m,.int .i64 a,.int .i64 g,.bool p,.bool c,.bool d] 24))=W0 at *;obtain ⟨ad0,cp0,hv0,ho,hb⟩:=hA;have HO:=hide ho;have HB:=hide hb;rw [hv0];clear ho hb hv0;have hbs:=(uh HB).size;rw [uh HS0] at hbs;have hc:=((uh HB).block w.heap.size (Nat.lt_succ_self _)).trans (uh HC0);obtain ⟨c0,c1,c2,c3,c4,c5⟩:=row6 hc;have hln:=askL_len m a g p c d 0;clear hc;go_upto_if 7 with fail
 have HSL:=hide (askS0 m a g p c d);generalize ((m:Int) != 300)=b at *;go_cut [3] (fun v wx=>AskC (askL m a g p c d 1) (w.heap.size+1) W0 v wx)
 case first =>
  generalize askL m a g p c d 0=L at *;generalize askL m a g p c d 1=L1 at *;have HLT:=hide (congrArg List.length (uh HSL));cases b
  ·rw [askIf_no,List.append_nil] at HSL;clear HLT;go_wp2_with fail
   go_meet;rw [uh HSL];exact ⟨_,_,rfl,uh HO,uh HB⟩
  ·go_wp2_with fail
   refine (sput2 m _).mono ?_;rintro e w4 ⟨rfl,hb4⟩;have HO4:=hide (own_same (uh HO) fun q _ hq=>hb4.block q hq);have HB4:=hide ((uh HB).trans (hb4.mono hbs));have hbs4:=Nat.le_trans hbs hb4.size;clear hb4 HO HB c0 c1 c2 c3 c4 c5;go_wp2_with (first | (at_builtin;refine append_opt rfl _ _ rfl (w.heap.size+1) (.slice ad0 L.length cp0) L L.length rfl rfl (uh HO4) 1 (put2 m) rfl (by omega) hbs4 ?_;rintro v6 w6 ho6 hg6;obtain ⟨a6,c6,rfl⟩:=own_form ho6))
   have hb6:Below (w.heap.size+1) W0 w6:=((uh HB4).alloc hbs4 _).grown hg6 (by simp;omega) (fun q hq=>(World.ownsRow.lt (uh HO4) q hq).1);go_meet;have hl1:L.length+1=L1.length:=by rw [uh HLT,askIf_yes,List.length_append];rfl
   refine ⟨a6,c6,by rw [← hl1],?_,hb6⟩;rw [← hl1,uh HSL,askIf_yes];exact ho6
 case rest =>
  obtain ⟨ad1,cp1,hu,ho,hb⟩:=hcut;subst hu;clear HO HB hbs c0 c1 c2 c3 c4 c5 hln HSL;have HO:=hide ho;have HB:=hide hb;clear ho hb;have hbs:=(uh HB).size;rw [uh HS0] at hbs;have hc:=((uh HB).block w.heap.size (Nat.lt_succ_self _)).trans (uh HC0);obtain ⟨c0,c1,c2,c3,c4,c5⟩:=row6 hc;have hln:=askL_len m a g p c d 1;clear hc;go_upto_if 17 with fail
  have HSL:=hide (askS1 m a g p c d);generalize ((a:Int) != 4294967295)=b at *;go_cut [3] (fun v wx=>AskC (askL m a g p c d 2) (w.heap.size+1) W0 v wx)
  case first =>
   generalize askL m a g p c d 1=L at *;generalize askL m a g p c d 2=L1 at *;have HLT:=hide (congrArg List.length (uh HSL));cases b
   ·rw [askIf_no,List.append_nil] at HSL;clear HLT;go_wp2_with fail
    go_meet;rw [uh HSL];exact ⟨_,_,rfl,uh HO,uh HB⟩
   ·go_wp2_with fail
    refine (sput4 a _).mono ?_;rintro e w4 ⟨rfl,hb4⟩;have HO4:=hide (own_same (uh HO) fun q _ hq=>hb4.block q hq);have HB4:=hide ((uh HB).trans (hb4.mono hbs));have hbs4:=Nat.le_trans hbs hb4.size;clear hb4 HO HB c0 c1 c2 c3 c4 c5;go_wp2_with (first | (at_builtin;refine append_opt rfl _ _ rfl (w.heap.size+1) (.slice ad1 L.length cp1) L L.length rfl rfl (uh HO4) 2 (put4 a) rfl (by omega) hbs4 ?_;rintro v6 w6 ho6 hg6;obtain ⟨a6,c6,rfl⟩:=own_form ho6))
    have hb6:Below (w.heap.size+1) W0 w6:=((uh HB4).alloc hbs4 _).grown hg6 (by simp;omega) (fun q hq=>(World.ownsRow.lt (uh HO4) q hq).1);go_meet;have hl1:L.length+1=L1.length:=by rw [uh HLT,askIf_yes,List.length_append];rfl
    refine ⟨a6,c6,by rw [← hl1],?_,hb6⟩;rw [← hl1,uh HSL,askIf_yes];exact ho6
  case rest =>
   obtain ⟨ad2,cp2,hu,ho,hb⟩:=hcut;subst hu;clear HO HB hbs c0 c1 c2 c3 c4 c5 hln HSL;have HO:=hide ho;have HB:=hide hb;clear ho hb;have hbs:=(uh HB).size;rw [uh HS0] at hbs;have hc:=((uh HB).block w.heap.size (Nat.lt_succ_self _)).trans (uh HC0);obtain ⟨c0,c1,c2,c3,c4,c5⟩:=row6 hc;have hln:=askL_len m a g p c d 2;clear hc;go_upto_if 27 with fail
   have HSL:=hide (askS2 m a g p c d);generalize ((g:Int) != 0)=b at *;go_cut [3] (fun v wx=>AskC (askL m a g p c d 3) (w.heap.size+1) W0 v wx)
   case first =>
    generalize askL m a g p c d 2=L at *;generalize askL m a g p c d 3=L1 at *;have HLT:=hide (congrArg List.length (uh HSL));cases b
    ·rw [askIf_no,List.append_nil] at HSL;clear HLT;go_wp2_with fail
     go_meet;rw [uh HSL];exact ⟨_,_,rfl,uh HO,uh HB⟩
    ·go_wp2_with fail
     refine (sput4 g _).mono ?_;rintro e w4 ⟨rfl,hb4⟩;have HO4:=hide (own_same (uh HO) fun q _ hq=>hb4.block q hq);have HB4:=hide ((uh HB).trans (hb4.mono hbs));have hbs4:=Nat.le_trans hbs hb4.size;clear hb4 HO HB c0 c1 c2 c3 c4 c5;go_wp2_with (first | (at_builtin;refine append_opt rfl _ _ rfl (w.heap.size+1) (.slice ad2 L.length cp2) L L.length rfl rfl (uh HO4) 5 (put4 g) rfl (by omega) hbs4 ?_;rintro v6 w6 ho6 hg6;obtain ⟨a6,c6,rfl⟩:=own_form ho6))
     have hb6:Below (w.heap.size+1) W0 w6:=((uh HB4).alloc hbs4 _).grown hg6 (by simp;omega) (fun q hq=>(World.ownsRow.lt (uh HO4) q hq).1);go_meet;have hl1:L.length+1=L1.length:=by rw [uh HLT,askIf_yes,List.length_append];rfl
     refine ⟨a6,c6,by rw [← hl1],?_,hb6⟩;rw [← hl1,uh HSL,askIf_yes];exact ho6
   case rest =>
    obtain ⟨ad3,cp3,hu,ho,hb⟩:=hcut;subst hu;clear HO HB hbs c0 c1 c2 c3 c4 c5 hln HSL;have HO:=hide ho;have HB:=hide hb;clear ho hb;have hbs:=(uh HB).size;rw [uh HS0] at hbs;have hc:=((uh HB).block w.heap.size (Nat.lt_succ_self _)).trans (uh HC0);obtain ⟨c0,c1,c2,c3,c4,c5⟩:=row6 hc;have hln:=askL_len m a g p c d 3;clear hc;go_upto_if 36 with fail
    have HSL:=hide (askS3 m a g p c d);go_cut [3] (fun v wx=>AskC (askL m a g p c d 4) (w.heap.size+1) W0 v wx)
    case first =>
     generalize askL m a g p c d 3=L at *;generalize askL m a g p c d 4=L1 at *;have HLT:=hide (congrArg List.length (uh HSL));cases p
     ·rw [askIf_no,List.append_nil] at HSL;clear HLT;go_wp2_with fail
      go_meet;rw [uh HSL];exact ⟨_,_,rfl,uh HO,uh HB⟩
     ·clear c0 c1 c2 c3 c4 c5;go_wp2_with (first | (at_builtin;refine append_opt rfl _ _ rfl (w.heap.size+1) (.slice ad3 L.length cp3) L L.length rfl rfl (uh HO) 7 (⟨#[]⟩) rfl (by omega) hbs ?_;rintro v6 w6 ho6 hg6;obtain ⟨a6,c6,rfl⟩:=own_form ho6))
      have hb6:Below (w.heap.size+1) W0 w6:=((uh HB).alloc hbs _).grown hg6 (by simp;omega) (fun q hq=>(World.ownsRow.lt (uh HO) q hq).1);go_meet;have hl1:L.length+1=L1.length:=by rw [uh HLT,askIf_yes,List.length_append];rfl
      refine ⟨a6,c6,by rw [← hl1],?_,hb6⟩;rw [← hl1,uh HSL,askIf_yes];exact ho6
    case rest =>
     obtain ⟨ad4,cp4,hu,ho,hb⟩:=hcut;subst hu;clear HO HB hbs c0 c1 c2 c3 c4 c5 hln HSL;have HO:=hide ho;have HB:=hide hb;clear ho hb;have hbs:=(uh HB).size;rw [uh HS0] at hbs;have hc:=((uh HB).block w.heap.size (Nat.lt_succ_self _)).trans (uh HC0);obtain ⟨c0,c1,c2,c3,c4,c5⟩:=row6 hc;have hln:=askL_len m a g p c d 4;clear hc;go_upto_if 42 with fail
     have HSL:=hide (askS4 m a g p c d);go_cut [3] (fun v wx=>AskC (askL m a g p c d 5) (w.heap.size+1) W0 v wx)
     case first =>
      generalize askL m a g p c d 4=L at *;generalize askL m a g p c d 5=L1 at *;have HLT:=hide (congrArg List.length (uh HSL));cases c
      ·rw [askIf_no,List.append_nil] at HSL;clear HLT;go_wp2_with fail
       go_meet;rw [uh HSL];exact ⟨_,_,rfl,uh HO,uh HB⟩
      ·clear c0 c1 c2 c3 c4 c5;go_wp2_with (first | (at_builtin;refine append_opt rfl _ _ rfl (w.heap.size+1) (.slice ad4 L.length cp4) L L.length rfl rfl (uh HO) 8 (⟨#[]⟩) rfl (by omega) hbs ?_;rintro v6 w6 ho6 hg6;obtain ⟨a6,c6,rfl⟩:=own_form ho6))
       have hb6:Below (w.heap.size+1) W0 w6:=((uh HB).alloc hbs _).grown hg6 (by simp;omega) (fun q hq=>(World.ownsRow.lt (uh HO) q hq).1);go_meet;have hl1:L.length+1=L1.length:=by rw [uh HLT,askIf_yes,List.length_append];rfl
       refine ⟨a6,c6,by rw [← hl1],?_,hb6⟩;rw [← hl1,uh HSL,askIf_yes];exact ho6
     case rest =>
      obtain ⟨ad5,cp5,hu,ho,hb⟩:=hcut;subst hu;clear HO HB hbs c0 c1 c2 c3 c4 c5 hln HSL;have HO:=hide ho;have HB:=hide hb;clear ho hb;have hbs:=(uh HB).size;rw [uh HS0] at hbs;have hc:=((uh HB).block w.heap.size (Nat.lt_succ_self _)).trans (uh HC0);obtain ⟨c0,c1,c2,c3,c4,c5⟩:=row6 hc;have hln:=askL_len m a g p c d 5;clear hc;go_upto_if 48 with fail
      have HSL:=hide (askS5 m a g p c d);go_cut [3] (fun v wx=>AskC (askL m a g p c d 6) (w.heap.size+1) W0 v wx)
      case first =>
       generalize askL m a g p c d 5=L at *;generalize askL m a g p c d 6=L1 at *;have HLT:=hide (congrArg List.length (uh HSL));cases d
       ·rw [askIf_no,List.append_nil] at HSL;clear HLT;go_wp2_with fail
        go_meet;rw [uh HSL];exact ⟨_,_,rfl,uh HO,uh HB⟩
       ·clear c0 c1 c2 c3 c4 c5;go_wp2_with (first | (at_builtin;refine append_opt rfl _ _ rfl (w.heap.size+1) (.slice ad5 L.length cp5) L L.length rfl rfl (uh HO) 9 (put1 4) rfl (by omega) hbs ?_;rintro v6 w6 ho6 hg6;obtain ⟨a6,c6,rfl⟩:=own_form ho6))
        have hb6:Below (w.heap.size+1) W0 w6:=((uh HB).alloc hbs _).grown hg6 (by simp;omega) (fun q hq=>(World.ownsRow.lt (uh HO) q hq).1);go_meet;have hl1:L.length+1=L1.length:=by rw [uh HLT,askIf_yes,List.length_append];rfl
        refine ⟨a6,c6,by rw [← hl1],?_,hb6⟩;rw [← hl1,uh HSL,askIf_yes];exact ho6
      case rest =>
       obtain ⟨ad6,cp6,hu,ho,hb⟩:=hcut;subst hu;clear HO HB hbs c0 c1 c2 c3 c4 c5 hln HSL;have HO:=hide ho;have HB:=hide hb;clear ho hb;have hB:=(uh HB0).trans ((uh HB).mono (Nat.le_succ _));have ho:=own_lower (uh HO) (Nat.le_succ _);clear HO HB HB0 HS0 HC0;go_wp2_with fail
       go_ret
       exact ⟨_,rfl,_,_,rfl,ho,hB⟩
def first250 (t:ByteArray):ByteArray:=if 250<t.size then t.extract 0 250 else t
theorem specFirst (t:ByteArray) (w:World) (ht:t.size≤100000):Calls prog 125 #[.string t,.int .i64 250] w fun e w'=>e=.returned (.string (first250 t))∧w'=w:=by
 unfold first250;by_cases h:250<t.size
 ·have d:(250:Int)<(t.size:Int):=by omega
  have d2:(250:Int)≤(t.size:Int):=by omega
  rw [if_pos h];go_enter func125,ntmps125
  go_wp2
  go_ret
  exact ⟨rfl,rfl⟩
 ·have d:¬ ((250:Int)<(t.size:Int)):=by omega
  rw [if_neg h];go_enter func125,ntmps125
  go_wp2
  go_ret
  exact ⟨rfl,rfl⟩
theorem specMin3 (y:Int) (w:World):Calls prog 124 #[.int .i64 3,.int .i64 y] w fun e w'=>e=.returned (.int .i64 (min 3 y))∧w'=w:=by
 by_cases h:3≤y
 ·rw [Int.min_eq_left h];by_cases h0:y=3
  ·subst h0;go_enter func124,ntmps124
   go_wp2
   go_ret
   exact ⟨rfl,rfl⟩
  ·have h1:3<y:=by omega
   have h2:¬ (y<3):=by omega
   go_enter func124,ntmps124
   go_wp2
   go_ret
   exact ⟨rfl,rfl⟩
 ·rw [Int.min_eq_right (by omega)];have h1:y<3:=by omega
  have h2:¬ (3<y):=by omega
  go_enter func124,ntmps124
  go_wp2
  go_ret
  exact ⟨rfl,rfl⟩
def enZero:En:=⟨0,0,0,false,false,false,0,0,0,false,false,false,0,0,0,0,0,false,0,0,false,false,false,0,0,false,false,false⟩
def enFresh (m a g:Int) (p c d:Bool):En:=⟨m,a,g,p,c,d,m,a,g,p,c,d,0,0,-1,0,0,false,0,0,false,false,false,0,0,false,false,false⟩
def enNew (m a g:Int) (p c d:Bool):En:=if cfgOk m a g=true then enFresh m a g p c d else enZero
theorem specEndNew (m a g:Int) (p c d:Bool) (w:World):Calls prog 65 #[.agg #[.int .i64 m,.int .i64 a,.int .i64 g,.bool p,.bool c,.bool d]] w fun r w'=>r=.returned (.agg (enC (enNew m a g p c d) (.slice none 0 0) (.slice none 0 0)))∧Below w.heap.size w w':=by
 have C:=hide fun v=>specCfg m a g p c d v
 obtain ⟨_,hA,hR,hb⟩:=start2r w (.cells #[.int .i64 m,.int .i64 a,.int .i64 g,.bool p,.bool c,.bool d] 24) (.cells #[.int .i64 0,.int .i64 0,.int .i64 0,.bool false,.bool false,.bool false,.int .i64 0,.int .i64 0,.int .i64 0,.bool false,.bool false,.bool false,.int .i64 0,.int .i64 0,.int .i64 0,.int .i64 0,.int .i64 0,.slice none 0 0,.slice none 0 0,.bool false,.int .i64 0,.int .i64 0,.bool false,.bool false,.bool false,.int .i64 0,.int .i64 0,.bool false,.bool false,.bool false] 29);have H0:=hide (And.intro hA (And.intro hR hb));clear hA hR hb;unfold enNew;cases hq:cfgOk m a g
 ·rw [if_neg (by decide)];rw [hq] at C;show Calls prog 65 #[.agg #[.int .i64 m,.int .i64 a,.int .i64 g,.bool p,.bool c,.bool d]] w fun r w'=>r=.returned (.agg #[.int .i64 0,.int .i64 0,.int .i64 0,.bool false,.bool false,.bool false,.int .i64 0,.int .i64 0,.int .i64 0,.bool false,.bool false,.bool false,.int .i64 0,.int .i64 0,.int .i64 0,.int .i64 0,.int .i64 0,.slice none 0 0,.slice none 0 0,.bool false,.int .i64 0,.int .i64 0,.bool false,.bool false,.bool false,.int .i64 0,.int .i64 0,.bool false,.bool false,.bool false])∧Below w.heap.size w w'
  go_enter func65,ntmps65
  go_wp2_with fail
  refine (uh C _).mono ?_;rintro r w1 ⟨rfl,hb1⟩;obtain ⟨hA,hR,hb⟩:=uh H0;have hR1:=(hb1.block (w.heap.size+1) (by simp)).trans hR;have hB1:=hb.trans (hb1.mono hb.size);have H1:=hide (And.intro hR1 hB1);clear hA hR hb hR1 hB1 hb1 H0 C;go_upto_region 2 with fail
  apply wp_region_lit
  refine wpList_buildTo rfl 29 _ rfl (some 6) rfl #[.int .i64 0,.int .i64 0,.int .i64 0,.bool false,.bool false,.bool false,.int .i64 0,.int .i64 0,.int .i64 0,.bool false,.bool false,.bool false,.int .i64 0,.int .i64 0,.int .i64 0,.int .i64 0,.int .i64 0,.slice none 0 0,.slice none 0 0,.bool false,.int .i64 0,.int .i64 0,.bool false,.bool false,.bool false,.int .i64 0,.int .i64 0,.bool false,.bool false,.bool false] (by as_aux_lemma=>kernel_rfl) ?_;refine wpList_store_rowTo rfl 29 (.tmp 2) (.tmp 6) rfl rfl (w.heap.size+1) #[.int .i64 0,.int .i64 0,.int .i64 0,.bool false,.bool false,.bool false,.int .i64 0,.int .i64 0,.int .i64 0,.bool false,.bool false,.bool false,.int .i64 0,.int .i64 0,.int .i64 0,.int .i64 0,.int .i64 0,.slice none 0 0,.slice none 0 0,.bool false,.int .i64 0,.int .i64 0,.bool false,.bool false,.bool false,.int .i64 0,.int .i64 0,.bool false,.bool false,.bool false] rfl rfl 29 _ (uh H1).1 infoE rfl (by kernel_rfl) ?_;apply wpList_nil
  simp only [Act.put,List.setIfInBounds_toArray,List.set_cons_zero,List.set_cons_succ];go_wp2
  exact bodyPost_ret (v:=.agg #[.int .i64 0,.int .i64 0,.int .i64 0,.bool false,.bool false,.bool false,.int .i64 0,.int .i64 0,.int .i64 0,.bool false,.bool false,.bool false,.int .i64 0,.int .i64 0,.int .i64 0,.int .i64 0,.int .i64 0,.slice none 0 0,.slice none 0 0,.bool false,.int .i64 0,.int .i64 0,.bool false,.bool false,.bool false,.int .i64 0,.int .i64 0,.bool false,.bool false,.bool false]) (by simp [results,results65,asAddr,loadEn (setRow_heap w1 (w.heap.size+1) _ #[.int .i64 0,.int .i64 0,.int .i64 0,.bool false,.bool false,.bool false,.int .i64 0,.int .i64 0,.int .i64 0,.bool false,.bool false,.bool false,.int .i64 0,.int .i64 0,.int .i64 0,.int .i64 0,.int .i64 0,.slice none 0 0,.slice none 0 0,.bool false,.int .i64 0,.int .i64 0,.bool false,.bool false,.bool false,.int .i64 0,.int .i64 0,.bool false,.bool false,.bool false] _ _ (uh H1).1)]) rfl ⟨rfl,below_row (uh H1).2 (by omega) _⟩
 ·rw [if_pos rfl];rw [hq] at C;show Calls prog 65 #[.agg #[.int .i64 m,.int .i64 a,.int .i64 g,.bool p,.bool c,.bool d]] w fun r w'=>r=.returned (.agg #[.int .i64 m,.int .i64 a,.int .i64 g,.bool p,.bool c,.bool d,.int .i64 m,.int .i64 a,.int .i64 g,.bool p,.bool c,.bool d,.int .i64 0,.int .i64 0,.int .i64 (-1),.int .i64 0,.int .i64 0,.slice none 0 0,.slice none 0 0,.bool false,.int .i64 0,.int .i64 0,.bool false,.bool false,.bool false,.int .i64 0,.int .i64 0,.bool false,.bool false,.bool false])∧Below w.heap.size w w'
  go_enter func65,ntmps65
  go_wp2_with fail
  refine (uh C _).mono ?_;rintro r w1 ⟨rfl,hb1⟩;obtain ⟨hA,hR,hb⟩:=uh H0;have hA1:=(hb1.block w.heap.size (by simp;omega)).trans hA;have hR1:=(hb1.block (w.heap.size+1) (by simp)).trans hR;have hB1:=hb.trans (hb1.mono hb.size);have H1:=hide (And.intro hA1 (And.intro hR1 hB1));clear hA hR hb hA1 hR1 hB1 hb1 H0 C;go_upto_region 3 with fail
  apply wp_region_lit
  refine wpList_load_row rfl 24 (.tmp 1) rfl w.heap.size rfl 24 #[.int .i64 m,.int .i64 a,.int .i64 g,.bool p,.bool c,.bool d] (0,0) _ (uh H1).1 underlying24 rfl (by kernel_rfl) ?_;refine wpList_load_row rfl 24 (.tmp 1) rfl w.heap.size rfl 24 #[.int .i64 m,.int .i64 a,.int .i64 g,.bool p,.bool c,.bool d] (0,0) _ (uh H1).1 underlying24 rfl (by kernel_rfl) ?_;refine wpList_buildTo rfl 29 _ rfl (some 9) rfl #[.int .i64 m,.int .i64 a,.int .i64 g,.bool p,.bool c,.bool d,.int .i64 m,.int .i64 a,.int .i64 g,.bool p,.bool c,.bool d,.int .i64 0,.int .i64 0,.int .i64 (-1),.int .i64 0,.int .i64 0,.slice none 0 0,.slice none 0 0,.bool false,.int .i64 0,.int .i64 0,.bool false,.bool false,.bool false,.int .i64 0,.int .i64 0,.bool false,.bool false,.bool false] (by as_aux_lemma=>kernel_rfl) ?_;refine wpList_store_rowTo rfl 29 (.tmp 2) (.tmp 9) rfl rfl (w.heap.size+1) #[.int .i64 m,.int .i64 a,.int .i64 g,.bool p,.bool c,.bool d,.int .i64 m,.int .i64 a,.int .i64 g,.bool p,.bool c,.bool d,.int .i64 0,.int .i64 0,.int .i64 (-1),.int .i64 0,.int .i64 0,.slice none 0 0,.slice none 0 0,.bool false,.int .i64 0,.int .i64 0,.bool false,.bool false,.bool false,.int .i64 0,.int .i64 0,.bool false,.bool false,.bool false] rfl rfl 29 _ (uh H1).2.1 infoE rfl (by kernel_rfl) ?_;apply wpList_nil
  simp only [Act.put,List.setIfInBounds_toArray,List.set_cons_zero,List.set_cons_succ];go_wp2
  exact bodyPost_ret (v:=.agg #[.int .i64 m,.int .i64 a,.int .i64 g,.bool p,.bool c,.bool d,.int .i64 m,.int .i64 a,.int .i64 g,.bool p,.bool c,.bool d,.int .i64 0,.int .i64 0,.int .i64 (-1),.int .i64 0,.int .i64 0,.slice none 0 0,.slice none 0 0,.bool false,.int .i64 0,.int .i64 0,.bool false,.bool false,.bool false,.int .i64 0,.int .i64 0,.bool false,.bool false,.bool false]) (by simp [results,results65,asAddr,loadEn (setRow_heap w1 (w.heap.size+1) _ #[.int .i64 m,.int .i64 a,.int .i64 g,.bool p,.bool c,.bool d,.int .i64 m,.int .i64 a,.int .i64 g,.bool p,.bool c,.bool d,.int .i64 0,.int .i64 0,.int .i64 (-1),.int .i64 0,.int .i64 0,.slice none 0 0,.slice none 0 0,.bool false,.int .i64 0,.int .i64 0,.bool false,.bool false,.bool false,.int .i64 0,.int .i64 0,.bool false,.bool false,.bool false] _ _ (uh H1).2.1)]) rfl ⟨rfl,below_row (uh H1).2.2 (by omega) _⟩
def nextE (e:En):En:={ e with id:=(e.id+1) % 256 }
def tryE (now:Int) (e:En):En:={ e with tr:=max 0 (e.tr - 1),du:=now+3 }
def downE (e:En):En:={ e with up:=false,i1:=0,i2:=0,i3:=false,i4:=false,i5:=false,o1:=0,o2:=0,o3:=false,o4:=false,o5:=false }
def upE (L1 L2:Ln) (e:En):En:={ e with up:=true,i1:=L1.m,i2:=L1.a,i3:=L1.p,i4:=L1.c,i5:=L1.d,o1:=L2.m,o2:=L2.a,o3:=L2.p,o4:=L2.c,o5:=L2.d }
def askOf (e:En):List Op.Opt:=askL e.m2.toNat e.a2.toNat e.g2.toNat e.p2 e.c2 e.d2 6
def putS (s:St) (cd id:Int) (dt:ByteArray):St:={ s with sn:=s.sn ++ [⟨cd,id,dt⟩] }
abbrev nIrc:ByteArray:=⟨#[105,114,99]⟩
abbrev nZrc:ByteArray:=⟨#[122,114,99]⟩
abbrev nScr:ByteArray:=⟨#[115,99,114]⟩
abbrev nStr:ByteArray:=⟨#[115,116,114]⟩
abbrev nTls:ByteArray:=⟨#[116,108,115]⟩
abbrev nTlf:ByteArray:=⟨#[116,108,102]⟩
abbrev nTld:ByteArray:=⟨#[116,108,100]⟩
abbrev nTlu:ByteArray:=⟨#[116,108,117]⟩
def doIrc (s:St):St:={ s with e:={ s.e with tr:=5 } }
def doZrc (s:St):St:={ s with e:={ s.e with tr:=0 } }
def doScr (c:Cx) (s:St):St:={ s with e:=tryE c.now (nextE s.e),F1:=askOf s.e,sn:=s.sn ++ [⟨1,(s.e.id+1) % 256,txt (Op.bytes (askOf s.e))⟩] }
def doStr (c:Cx) (s:St):St:={ s with e:=tryE c.now (nextE s.e),sn:=s.sn ++ [⟨5,(s.e.id+1) % 256,⟨#[]⟩⟩] }
def say (t:ByteArray) (s:St):St:={ s with tl:=s.tl ++ [t] }
def doTld (s:St):St:=say nTld { s with e:=downE s.e }
def doTlu (s:St):St:=say nTlu { s with e:=upE (lineOf s.F1) (lineOf s.F2) s.e }
abbrev nSca:ByteArray:=⟨#[115,99,97]⟩
abbrev nScn:ByteArray:=⟨#[115,99,110]⟩
abbrev nSta:ByteArray:=⟨#[115,116,97]⟩
abbrev nScj:ByteArray:=⟨#[115,99,106]⟩
abbrev nSer:ByteArray:=⟨#[115,101,114]⟩
def doSca (c:Cx) (s:St):St:={ s with e:={ s.e with fl:=0 },F2:=c.hd,sn:=s.sn ++ [⟨2,c.ci,txt (Op.bytes c.ao)⟩] }
def doScn (c:Cx) (s:St):St:={ s with e:={ s.e with fl:=if c.ac=3 then min 3 (s.e.fl+1) else s.e.fl },sn:=s.sn ++ [⟨c.ac,c.ci,txt (Op.bytes c.ao)⟩] }
def doSta (c:Cx) (s:St):St:={ s with sn:=s.sn ++ [⟨6,c.ci,⟨#[]⟩⟩] }
def doScj (t:ByteArray) (s:St):St:={ s with e:=nextE s.e,sn:=s.sn ++ [⟨7,(s.e.id+1) % 256,t⟩] }
def doSer (c:Cx) (s:St):St:=if c.cc=9∧4≤c.cd.size then { s with sn:=s.sn ++ [⟨10,c.ci,put4 s.e.g2.toNat ++ c.cd.extract 4 c.cd.size⟩] } else s
def cameT (c:Cx):ByteArray:=first250 (ptV ⟨c.cc,c.ci,c.cd⟩)
def actF (c:Cx) (t:ByteArray) (s:St):St :=
 if t=nIrc then doIrc s else if t=nZrc then doZrc s else if t=nScr then doScr c s else if t=nStr then doStr c s else if t=nSca then doSca c s else if t=nScn then doScn c s
 else if t=nSta then doSta c s else if t=nScj then doScj (cameT c) s else if t=nSer then doSer c s else if t=nTlu then doTlu s else if t=nTld then doTld s else say t s
def setT (t:ByteArray):Bool:=decide (t.toList=[105,114,99]) || decide (t.toList=[122,114,99])
def endE (c:Cx) (A:List ByteArray) (st:Int) (e:En):En :=
 { e with st:=st,du:=if runs st=true then (if (decide (e.du<0) || A.any setT)=true then c.now+3 else e.du) else -1 }
structure EO where
 e:En
 F1:List Op.Opt
 F2:List Op.Opt
 sn:List Op.Pk
 tl:List ByteArray
 cd:Int
def eoErr (cd:Int):EO:=⟨enZero,[],[],[],[],cd⟩
def evF (c:Cx) (s:St) (t:ByteArray):EO :=
 if (fsmF s.e.st t).2.2=0 then
  ⟨endE c (fsmF s.e.st t).2.1 (fsmF s.e.st t).1 ((fsmF s.e.st t).2.1.foldl (fun s a=>actF c a s) s).e,((fsmF s.e.st t).2.1.foldl (fun s a=>actF c a s) s).F1,((fsmF s.e.st t).2.1.foldl (fun s a=>actF c a s) s).F2,((fsmF s.e.st t).2.1.foldl (fun s a=>actF c a s) s).sn,((fsmF s.e.st t).2.1.foldl (fun s a=>actF c a s) s).tl,0⟩
 else eoErr (fsmF s.e.st t).2.2
def EvA (w0:World) (o:EO) (r:Ending) (q:World):Prop :=
 ∃ v1 v2 vs vt,r=.returned (.agg (eoC o.e v1 v2 vs vt o.cd))∧q.ownsRow w0.heap.size 116 2 v1 o.F1.length (ocells o.F1)∧q.ownsRow w0.heap.size 116 2 v2 o.F2.length (ocells o.F2)∧q.ownsRow w0.heap.size 35 3 vs o.sn.length (pkcells o.sn)∧q.ownsRow w0.heap.size 9 1 vt o.tl.length (scells o.tl)∧Ap v1 v2∧Below w0.heap.size w0 q
structure Fit (n:Nat) (c:Cx) (s:St):Prop where
 cf:cfgOk s.e.m1 s.e.a1 s.e.g1=true
 ask:cfgOk s.e.m2 s.e.a2 s.e.g2=true
 id:0≤s.e.id∧s.e.id≤255
 tr:0≤s.e.tr∧s.e.tr≤5
 fl:0≤s.e.fl∧s.e.fl≤3
 now:0≤c.now∧c.now≤1000000000
 f1:opOk s.F1=true
 f2:opOk s.F2=true
 sn:s.sn.length≤n
 tl:s.tl.length≤n
 hd:opOk c.hd=true
 ao:opOk c.ao=true
 cd:c.cd.size≤250
 du:-1≤s.e.du
theorem opOk_right {F:List Op.Opt} (h:opOk F=true):Op.right F=true:=by unfold opOk at h;rw [Bool.and_eq_true] at h;exact h.1
theorem nextE_id (e:En):0≤(nextE e).id∧(nextE e).id≤255:=by unfold nextE;dsimp only;omega
theorem askL_mem {m a g:Nat} {p c d:Bool} {o:Op.Opt} (h:o ∈ askL m a g p c d 6):Op.ok o=true∧o.data.size≤4:=by
 unfold askL at h;obtain ⟨x,hx,ho⟩:=List.mem_flatten.1 h;have hx':=List.mem_of_mem_take hx;have key:∀ (b:Bool) (k:Int) (t:ByteArray),(1≤k∧k≤255∧t.size≤4)→o ∈ askIf b k t→Op.ok o=true∧o.data.size≤4:=by
  intro b k t hk hm;cases b
  ·simp [askIf] at hm
  ·simp [askIf] at hm;subst hm;exact ⟨decide_eq_true ⟨hk.1,hk.2.1,by show t.size≤20;omega⟩,hk.2.2⟩
 simp only [askP,List.mem_cons,List.not_mem_nil,or_false] at hx';rcases hx' with rfl | rfl | rfl | rfl | rfl | rfl
 ·exact key _ _ _ ⟨by decide,by decide,by show 2≤4;decide⟩ ho
 ·exact key _ _ _ ⟨by decide,by decide,by show 4≤4;decide⟩ ho
 ·exact key _ _ _ ⟨by decide,by decide,by show 4≤4;decide⟩ ho
 ·exact key _ _ _ ⟨by decide,by decide,by show 0≤4;decide⟩ ho
 ·exact key _ _ _ ⟨by decide,by decide,by show 0≤4;decide⟩ ho
 ·exact key _ _ _ ⟨by decide,by decide,by show 1≤4;decide⟩ ho
theorem bytes_le6 (F:List Op.Opt) (h:∀ o ∈ F,o.data.size≤4):(Op.bytes F).length≤6*F.length:=by
 induction F with
 | nil=>simp [Op.bytes]
 | cons o F ih =>
  have h1:=ih fun x hx=>h x (by simp [hx])
  have h2:=h o (by simp);have e:Op.bytes (o :: F)=Op.one o ++ Op.bytes F:=rfl;have e1:(Op.one o).length=2+o.data.size:=by unfold Op.one;rw [List.length_append];show 2+o.data.data.toList.length=_;rfl
  rw [e,List.length_append,e1,List.length_cons];omega
theorem askOf_ok (e:En):opOk (askOf e)=true:=by
 have h1:(askOf e).length≤6:=askL_len _ _ _ _ _ _ _;have h2:=bytes_le6 (askOf e) fun o ho=>(askL_mem ho).2
 unfold opOk Op.right;rw [Bool.and_eq_true,Bool.and_eq_true];exact ⟨⟨decide_eq_true (by omega),List.all_eq_true.2 fun o ho=>(askL_mem ho).1⟩,decide_eq_true (by omega)⟩
theorem cfgNat {m a g:Int} (h:cfgOk m a g=true):((m.toNat:Nat):Int)=m∧((a.toNat:Nat):Int)=a∧((g.toNat:Nat):Int)=g:=by
 simp only [cfgOk,within,Bool.and_eq_true,decide_eq_true_eq] at h;omega
theorem askOf_len (e:En):(askOf e).length≤6:=askL_len _ _ _ _ _ _ _
theorem Fit.irc {n:Nat} {c:Cx} {s:St} (h:Fit n c s):Fit (n+1) c (doIrc s):=⟨h.cf,h.ask,h.id,⟨show (0:Int)≤5 by decide,show (5:Int)≤5 by decide⟩,h.fl,h.now,h.f1,h.f2,Nat.le_succ_of_le h.sn,Nat.le_succ_of_le h.tl,h.hd,h.ao,h.cd,h.du⟩
theorem Fit.zrc {n:Nat} {c:Cx} {s:St} (h:Fit n c s):Fit (n+1) c (doZrc s):=⟨h.cf,h.ask,h.id,⟨show (0:Int)≤0 by decide,show (0:Int)≤5 by decide⟩,h.fl,h.now,h.f1,h.f2,Nat.le_succ_of_le h.sn,Nat.le_succ_of_le h.tl,h.hd,h.ao,h.cd,h.du⟩
theorem tryE_tr {now:Int} {e:En} (h:0≤e.tr∧e.tr≤5):0≤(tryE now e).tr∧(tryE now e).tr≤5:=by unfold tryE;dsimp only;omega
theorem Fit.scr {n:Nat} {c:Cx} {s:St} (h:Fit n c s):Fit (n+1) c (doScr c s) :=
 ⟨h.cf,h.ask,nextE_id _,tryE_tr h.tr,h.fl,h.now,askOf_ok _,h.f2,by have:=h.sn;simp [doScr];omega,Nat.le_succ_of_le h.tl,h.hd,h.ao,h.cd,by have:=h.now;show -1≤c.now+3;omega⟩
theorem Fit.str {n:Nat} {c:Cx} {s:St} (h:Fit n c s):Fit (n+1) c (doStr c s) :=
 ⟨h.cf,h.ask,nextE_id _,tryE_tr h.tr,h.fl,h.now,h.f1,h.f2,by have:=h.sn;simp [doStr];omega,Nat.le_succ_of_le h.tl,h.hd,h.ao,h.cd,by have:=h.now;show -1≤c.now+3;omega⟩
theorem Fit.say {n:Nat} {c:Cx} {s:St} (h:Fit n c s) (t:ByteArray):Fit (n+1) c (say t s) :=
 ⟨h.cf,h.ask,h.id,h.tr,h.fl,h.now,h.f1,h.f2,Nat.le_succ_of_le h.sn,by have:=h.tl;simp [Go.Proofs.YtahpjlbaagkdoaaGreatDoor.say];omega,h.hd,h.ao,h.cd,h.du⟩
theorem Fit.tld {n:Nat} {c:Cx} {s:St} (h:Fit n c s):Fit (n+1) c (doTld s) :=
 Fit.say (s:={ s with e:=downE s.e }) ⟨h.cf,h.ask,h.id,h.tr,h.fl,h.now,h.f1,h.f2,h.sn,h.tl,h.hd,h.ao,h.cd,h.du⟩ _
theorem Fit.tlu {n:Nat} {c:Cx} {s:St} (h:Fit n c s):Fit (n+1) c (doTlu s) :=
 Fit.say (s:={ s with e:=upE (lineOf s.F1) (lineOf s.F2) s.e }) ⟨h.cf,h.ask,h.id,h.tr,h.fl,h.now,h.f1,h.f2,h.sn,h.tl,h.hd,h.ao,h.cd,h.du⟩ _
theorem Fit.put {n:Nat} {c:Cx} {s:St} (h:Fit n c s) (p:Op.Pk):Fit (n+1) c { s with sn:=s.sn ++ [p] } :=
 ⟨h.cf,h.ask,h.id,h.tr,h.fl,h.now,h.f1,h.f2,by have:=h.sn;simp;omega,Nat.le_succ_of_le h.tl,h.hd,h.ao,h.cd,h.du⟩
theorem Fit.up {n:Nat} {c:Cx} {s:St} (h:Fit n c s):Fit (n+1) c s :=
 ⟨h.cf,h.ask,h.id,h.tr,h.fl,h.now,h.f1,h.f2,Nat.le_succ_of_le h.sn,Nat.le_succ_of_le h.tl,h.hd,h.ao,h.cd,h.du⟩
theorem Fit.act {n:Nat} {c:Cx} {s:St} (h:Fit n c s) (t:ByteArray):Fit (n+1) c (actF c t s):=by
 unfold actF;split
 ·exact h.irc
 split
 ·exact h.zrc
 split
 ·exact h.scr
 split
 ·exact h.str
 split
 ·exact Fit.put (s:={ s with e:={ s.e with fl:=0 },F2:=c.hd }) ⟨h.cf,h.ask,h.id,h.tr,⟨show (0:Int)≤0 by decide,show (0:Int)≤3 by decide⟩,h.now,h.f1,h.hd,h.sn,h.tl,h.hd,h.ao,h.cd,h.du⟩ _
 split
 ·refine Fit.put (s:={ s with e:={ s.e with fl:=if c.ac=3 then min 3 (s.e.fl+1) else s.e.fl } }) ⟨h.cf,h.ask,h.id,h.tr,?_,h.now,h.f1,h.f2,h.sn,h.tl,h.hd,h.ao,h.cd,h.du⟩ _;have:=h.fl
  dsimp only;split<;>omega
 split
 ·exact h.put _
 split
 ·exact Fit.put (s:={ s with e:=nextE s.e }) ⟨h.cf,h.ask,nextE_id _,h.tr,h.fl,h.now,h.f1,h.f2,h.sn,h.tl,h.hd,h.ao,h.cd,h.du⟩ _
 split
 ·unfold doSer;split
  ·exact h.put _
  ·exact h.up
 split
 ·exact h.tlu
 split
 ·exact h.tld
 ·exact h.say _
theorem Fit.fold {c:Cx} {s:St} (h:Fit 0 c s) (A:List ByteArray) (i:Nat):Fit i c ((A.take i).foldl (fun s a=>actF c a s) s):=by
 induction i with
 | zero=>exact h
 | succ i ih =>
  by_cases hi:i<A.length
  ·rw [List.take_succ_eq_append_getElem hi,List.foldl_append];exact ih.act _
  ·have e:A.take (i+1)=A.take i:=by rw [List.take_of_length_le (by omega),List.take_of_length_le (by omega)]
   rw [e];exact ih.up
end Go.Proofs.YtahpjlbaagkdoaaGreatDoor
namespace Go.Proofs.YtahpjlbaagkdoaaGreatDoor
open Go.RowKit Go.Proofs.Tryz
theorem ttI:Tt 83:=⟨by decide,by decide,by decide⟩
section
variable {w0 w1:World} {B:Nat} {c:Cx} {s:St} {v1 v2 vs vt:Value} {q:World}
theorem iNext (h:Lay 83 w0 w1 B c s v1 v2 vs vt q) (hid:0≤s.e.id∧s.e.id≤255) :
    Calls prog 239 #[.pointer (some ⟨B,0,none⟩)] q fun r q'=>r=.returned (.int .i64 ((s.e.id+1) % 256))∧Lay 83 w0 w1 B c { s with e:=nextE s.e } v1 v2 vs vt q':=by
  have c15:=h.cell (i:=15) rfl;have f15:=h.frz 15;obtain ⟨h1,h2⟩:=hid;have h':=h.setRaw 15 (.int .i64 ((s.e.id+1) % 256)) (nextE s.e) rfl;have d15:=h'.cell (i:=15) rfl;dsimp only [nextE] at d15;have hm:(s.e.id+1).tmod 256=(s.e.id+1) % 256:=Int.tmod_eq_emod_of_nonneg (by omega);have HL:=hide h';clear h h';go_enter func239,ntmps239
  go_wp2
  go_ret
  exact ⟨rfl,uh HL⟩
theorem iTry (h:Lay 83 w0 w1 B c s v1 v2 vs vt q) (htr:0≤s.e.tr∧s.e.tr≤5) (hn:0≤c.now∧c.now≤1000000000) :
    Calls prog 240 #[.pointer (some ⟨B,0,none⟩)] q fun r q'=>r=.returned (.tuple #[])∧Lay 83 w0 w1 B c { s with e:=tryE c.now s.e } v1 v2 vs vt q':=by
  have c13:=h.cell (i:=13) rfl;have f13:=h.frz 13;obtain ⟨h1,h2⟩:=htr;obtain ⟨h3,h4⟩:=hn;have h':=h.setRaw 13 (.int .i64 (max 0 (s.e.tr - 1))) { s.e with tr:=max 0 (s.e.tr - 1) } rfl;have c14:=h'.cell (i:=14) rfl;have f14:=h'.frz 14;have c30:=h'.cell (i:=30) rfl;have h'':=h'.setRaw 14 (.int .i64 (c.now+3)) (tryE c.now s.e) rfl;have HL:=hide h'';clear h h' h'';dsimp only at c14 c30;go_enter func240,ntmps240
  go_wp2
  exact Great.bodyPost_end0 rfl rfl ⟨rfl,uh HL⟩
theorem iSend (h:Lay 83 w0 w1 B c s v1 v2 vs vt q) (hS:s.sn.length≤1000) (cd id:Int) (dt:ByteArray) :
    Calls prog 238 #[.pointer (some ⟨B,0,none⟩),.int .i64 cd,.int .i64 id,.string dt] q fun r q'=>r=.returned (.tuple #[])∧∃ vs',Lay 83 w0 w1 B c (putS s cd id dt) v1 v2 vs' vt q':=by
  have c0:=h.cell (i:=37) rfl;obtain ⟨ad,cp,rfl⟩:=own_form h.os;obtain ⟨n,hn⟩:∃ n,s.sn.length=n:=⟨_,rfl⟩;have ho:=h.os;rw [hn] at c0 ho hS h;have HO:=hide ho;have HL:=hide h;clear h ho;go_enter func238,ntmps238
  go_wp2_with (first
    | (at_builtin;refine append_pk rfl _ _ rfl w1.heap.size (.slice ad n cp) s.sn n hn rfl (uh HO) cd id dt rfl hS (uh HL).nr.size ?_;rintro v6 w6 ho6 hg6;obtain ⟨a6,c6,rfl⟩:=own_form ho6
       have e6:=(hg6.block B (Nat.lt_of_lt_of_le (uh HL).lt (by simp)) (fun e=>(own_ty (uh HL).os (uh HL).row (uh HL).tt.2.1) e.symm)).trans ((Below.heap_alloc _ _ _ (uh HL).lt).trans (uh HL).row);have k6:w6.cell? ⟨B,37,none⟩=some (.slice ad n cp):=by rw [cr e6];rfl
       have f6:w6.frozen? ⟨B,37,none⟩=false:=frz e6 37;clear e6))
  refine Great.bodyPost_end0 rfl rfl ⟨rfl,_,(uh HL).put _ hg6 _ _ ?_⟩;rw [List.length_append,hn];exact ho6
theorem iFall (h:Lay 83 w0 w1 B c s v1 v2 vs vt q) :
    Calls prog 232 #[.pointer (some ⟨B,0,none⟩)] q fun r q'=>r=.returned (.tuple #[])∧Lay 83 w0 w1 B c { s with e:=downE s.e } v1 v2 vs vt q':=by
  have c19:=h.cell (i:=19) rfl;have f19:=h.frz 19;have h19:=h.setRaw 19 (.bool false) { s.e with up:=false } rfl;have c20:=h19.cell (i:=20) rfl;have f20:=h19.frz 20;have h20:=h19.setRaw 20 (.int .i64 0) { s.e with up:=false,i1:=0 } rfl;have c21:=h20.cell (i:=21) rfl;have f21:=h20.frz 21;have h21:=h20.setRaw 21 (.int .i64 0) { s.e with up:=false,i1:=0,i2:=0 } rfl;have c22:=h21.cell (i:=22) rfl;have f22:=h21.frz 22;have h22:=h21.setRaw 22 (.bool false) { s.e with up:=false,i1:=0,i2:=0,i3:=false } rfl;have c23:=h22.cell (i:=23) rfl;have f23:=h22.frz 23;have h23:=h22.setRaw 23 (.bool false) { s.e with up:=false,i1:=0,i2:=0,i3:=false,i4:=false } rfl;have c24:=h23.cell (i:=24) rfl;have f24:=h23.frz 24;have h24:=h23.setRaw 24 (.bool false) { s.e with up:=false,i1:=0,i2:=0,i3:=false,i4:=false,i5:=false } rfl;have c25:=h24.cell (i:=25) rfl;have f25:=h24.frz 25;have h25:=h24.setRaw 25 (.int .i64 0) { s.e with up:=false,i1:=0,i2:=0,i3:=false,i4:=false,i5:=false,o1:=0 } rfl;have c26:=h25.cell (i:=26) rfl;have f26:=h25.frz 26;have h26:=h25.setRaw 26 (.int .i64 0) { s.e with up:=false,i1:=0,i2:=0,i3:=false,i4:=false,i5:=false,o1:=0,o2:=0 } rfl;have c27:=h26.cell (i:=27) rfl;have f27:=h26.frz 27;have h27:=h26.setRaw 27 (.bool false) { s.e with up:=false,i1:=0,i2:=0,i3:=false,i4:=false,i5:=false,o1:=0,o2:=0,o3:=false } rfl;have c28:=h27.cell (i:=28) rfl;have f28:=h27.frz 28;have h28:=h27.setRaw 28 (.bool false) { s.e with up:=false,i1:=0,i2:=0,i3:=false,i4:=false,i5:=false,o1:=0,o2:=0,o3:=false,o4:=false } rfl;have c29:=h28.cell (i:=29) rfl;have f29:=h28.frz 29;have h29:=h28.setRaw 29 (.bool false) (downE s.e) rfl;have HL:=hide h29;clear h h19 h20 h21 h22 h23 h24 h25 h26 h27 h28 h29;dsimp only at c20 c21 c22 c23 c24 c25 c26 c27 c28 c29;go_enter func232,ntmps232
  go_wp2
  exact Great.bodyPost_end0 rfl rfl ⟨rfl,uh HL⟩
theorem iSet (h:Lay 83 w0 w1 B c s v1 v2 vs vt q) (n:Int) :
    Calls prog 233 #[.agg #[.int .i64 n],.pointer (some ⟨B,0,none⟩)] q fun r q'=>r=.returned (.tuple #[])∧Lay 83 w0 w1 B c { s with e:={ s.e with tr:=n } } v1 v2 vs vt q':=by
  have hb:Below q.heap.size q (q.alloc (.cells #[.int .i64 n] 133)):=(Below.refl _ _).alloc (Nat.le_refl _) _;have h0:=h.step hb;have c13:=h0.cell (i:=13) rfl;have f13:=h0.frz 13;have HL:=hide (h0.setRaw 13 (.int .i64 n) { s.e with tr:=n } rfl);clear h h0 hb;go_enter func233,ntmps233
  go_wp2
  exact Great.bodyPost_end0 rfl rfl ⟨rfl,uh HL⟩
theorem iEnd {n:Nat} (h:Lay 83 w0 w1 B c s v1 v2 vs vt q) (hf:Fit n c s) (hn:n≤1000) :
    Calls prog 241 #[.agg #[],.pointer (some ⟨B,0,none⟩)] q fun r q'=>r=.returned (.tuple #[])∧∃ vs',Lay 83 w0 w1 B c (doStr c s) v1 v2 vs' vt q':=by
  have hb:Below q.heap.size q (q.alloc (.cells #[] 159)):=(Below.refl _ _).alloc (Nat.le_refl _) _;have HL:=hide (h.step hb);have HF:=hide hf;clear h hb hf;go_enter func241,ntmps241
  go_wp2_with fail
  refine (iNext (uh HL) (uh HF).id).mono ?_;rintro r q1 ⟨rfl,h1⟩;have HL1:=hide h1;clear h1;go_wp2_with fail
  refine (iSend (uh HL1) (Nat.le_trans (uh HF).sn hn) 5 _ _).mono ?_;rintro r q2 ⟨rfl,vs2,h2⟩;have HL2:=hide h2;clear h2;go_wp2_with fail
  refine (iTry (uh HL2) (uh HF).tr (uh HF).now).mono ?_;rintro r q3 ⟨rfl,h3⟩;go_wp2
  exact Great.bodyPost_end0 rfl rfl ⟨rfl,_,h3⟩
theorem iReq {n:Nat} (h:Lay 83 w0 w1 B c s v1 v2 vs vt q) (hf:Fit n c s) (hn:n≤1000) :
    Calls prog 236 #[.agg #[],.pointer (some ⟨B,0,none⟩)] q fun r q'=>r=.returned (.tuple #[])∧∃ v1' vs',Lay 83 w0 w1 B c (doScr c s) v1' v2 vs' vt q':=by
  have HF:=hide hf;obtain ⟨e1,e2,e3⟩:=cfgNat hf.ask;have CA:=hide fun W=>implAskYes s.e.m2.toNat s.e.a2.toNat s.e.g2.toNat s.e.p2 s.e.c2 s.e.d2 W (by rw [e1,e2,e3];exact hf.ask)
  rw [e1,e2,e3] at CA;clear e1 e2 e3;have hb:Below q.heap.size q (q.alloc (.cells #[] 158)):=(Below.refl _ _).alloc (Nat.le_refl _) _;have h0:=h.step hb;have c6:=h0.cell (i:=6) rfl;have c7:=h0.cell (i:=7) rfl;have c8:=h0.cell (i:=8) rfl;have c9:=h0.cell (i:=9) rfl;have c10:=h0.cell (i:=10) rfl;have c11:=h0.cell (i:=11) rfl;have HL:=hide h0;clear h h0 hb hf;go_enter func236,ntmps236
  go_wp2_with fail
  refine (uh CA _).mono ?_;rintro r q1 ⟨ad,cp,rfl,ho,hb⟩;have h1:=(uh HL).step hb;have c17:=h1.cell (i:=17) rfl;have f17:=h1.frz 17;have HL1:=hide ((uh HL).new1 hb _ (askOf s.e) ho);clear h1 ho hb HL CA c6 c7 c8 c9 c10 c11;go_upto_region 2 with fail
  refine gen_world (fun z=>Lay 83 w0 w1 B c { s with F1:=askOf s.e } (.slice ad (askOf s.e).length cp) v2 vs vt z) ?_ ?_
  · exact uh HL1
  clear HL1 c17 f17;rintro z hz;have c17:=hz.cell (i:=17) rfl;have HZ:=hide (hz.step (Below.refl _ _).drew);clear hz;refine wp_region_held_drew (S:=fun z=>z.cell? ⟨B,17,none⟩=some (.slice ad (askOf s.e).length cp)) (by kernel_rfl) ?_ (fun hHeld=>?_)
  · exact c17
  refine t2 0 ?_;refine t2 1 ?_;refine t2 2 ?_;refine t2 3 ?_;refine t2 5 ?_;refine t2 6 ?_;refine t2 7 ?_;refine t2 8 ?_;refine t2 9 ?_;refine r1 4 rfl (fun K hK=>?_);go_simp;refine (iNext (uh HZ) (uh HF).id).mono ?_;rintro r z1 ⟨rfl,h1⟩;have HZ1:=hide h1;clear h1;go_wp2_with fail
  refine ro hK ?_ fun _=>?_
  · exact (uh HZ1).cell (i:=17) rfl
  clear hK K;refine r1 10 rfl (fun K hK=>?_);go_simp;refine (implBytesAll _ (askOf s.e) _ (by have:=askOf_len s.e;unfold maxLen;omega) (HoldsO.own (uh HZ1).o1)).mono ?_;rintro r z2 ⟨rfl,hb2⟩;have HZ2:=hide ((uh HZ1).step hb2);clear hb2;go_wp2_with fail
  refine ro hK ?_ fun _=>?_
  · exact (uh HZ2).cell (i:=17) rfl
  clear hK K;refine r1 11 rfl (fun K hK=>?_);go_simp;refine (iSend (uh HZ2) (Nat.le_trans (uh HF).sn hn) 1 _ _).mono ?_;rintro r z3 ⟨rfl,vs3,h3⟩;have HP:=hide h3;clear h3;go_wp2_with fail
  refine ro hK ?_ fun _=>?_
  · exact (uh HP).cell (i:=17) rfl
  clear hK K;refine dn ?_ _;go_wp2_with fail
  refine (iTry (uh HP) (uh HF).tr (uh HF).now).mono ?_;rintro r q9 ⟨rfl,h9⟩;go_wp2
  have e9:otV (askOf s.e)=txt (Op.bytes (askOf s.e)):=otV_yes (opOk_right (askOf_ok s.e));rw [e9] at h9;exact Great.bodyPost_end0 rfl rfl ⟨rfl,_,_,h9⟩
end
end Go.Proofs.YtahpjlbaagkdoaaGreatDoor
