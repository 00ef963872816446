/- Words for the law FnLoss: what is laid while parts are put on lines, and while they are heard; no condition but those named. -/
import Derived.Test.YtfkeokfmancgiaaGA
import Derived.Test.YtfkeokfmancgiaaGB
import Derived.Test.YtfkeokfmancgiaaGE
import Derived.Test.YtfkeokfmancgiaaFgXM
import Derived.Test.YtfkeokfmancgiaaGD
import Derived.Deep.DeepCutAuto
import Derived.Deep.RegionHeld3
namespace Go.Proofs.Ytfkeokfmancgiaa
open Go.RowKit
/-- A byte as a text. -/
theorem conv9 (c : UInt8) (W : World) : (convert 22 9 (.slice (some ⟨W.heap.size, 0, none⟩) 1 1)).run Try.prog (W.alloc (.cells #[.int .u8 (c.toNat : Int)] 5)) = .ok (.string (txt [c])) (W.alloc (.cells #[.int .u8 (c.toNat : Int)] 5)) :=
  own_conv (World.ownsRow_lit W #[.int .u8 (c.toNat : Int)] 1 (Nat.le_refl _) (by decide) rfl)
/-- The texts drawn so far: each begins with a letter of its own. -/
def TsOk (ts : List ByteArray) : Prop := ∀ j (h : j < ts.length), ∃ r : List UInt8, ts[j].data.toList = UInt8.ofNat (97 + j) :: r ∧ r.length ≤ 6
/-- What the law has laid in the first loop. -/
structure Lz (w q : World) (s links G : Nat) (tv : Value) (ts : List ByteArray) (vs : List Value) (Rm : List (List Fg)) (W : List Fg) (sq : Int) (lost : Nat) : Prop where
  t : q.ownsRow w.heap.size 9 1 tv ts.length (scells ts)
  r : Rw q w.heap.size G vs Rm
  n : Rm.length = links
  y : Ly W sq Rm lost
  b : Below w.heap.size w q
  bG : w.heap.size ≤ G
theorem own_lo8 {w w' : World} {base : Nat} {e : TypeId} {size : Nat} {v : Value} {n : Nat} {xs : List Value} (h : w.ownsRow base e size v n xs) (hb : Below w.heap.size w w') : w'.ownsRow base e size v n xs :=
  ⟨h.1, h.2.imp id fun ⟨g, cap, cur, p1, p2, p3, p4⟩ => ⟨g, cap, cur, p1, p2, (hb.block g (Array.getElem?_eq_some_iff.1 p3).1).trans p3, p4⟩⟩
theorem Lz.step {w q q' : World} {s links G : Nat} {tv : Value} {ts : List ByteArray} {vs : List Value} {Rm : List (List Fg)} {W : List Fg} {sq : Int} {lost : Nat} (h : Lz w q s links G tv ts vs Rm W sq lost) (hb : Below q.heap.size q q') : Lz w q' s links G tv ts vs Rm W sq lost :=
  ⟨own_lo8 h.t hb, h.r.step hb, h.n, h.y, h.b.trans (hb.mono h.b.size), h.bG⟩
theorem txt_snoc (l : List UInt8) (d : UInt8) : txt l ++ txt [d] = txt (l ++ [d]) := by
  apply ByteArray.ext
  simp [txt, ByteArray.data_append]
theorem append_one8 {w : World} {ops : Array Oper} {rest : List Oper} {o : Oper} {a : Act} {Q : Exit → Act → World → Prop} (hgd : o.guard = none) (s x : Operand)
    (ho : o.op = .call { callee := .builtin .append, args := #[s, x], argTypes := #[31, 31] }) (base b2 : Nat) (v : Value) (L : List ByteArray) (t : ByteArray) (ad : Option Addr) (c : Nat) (hs : a.eval s = v) (hx : a.eval x = .slice ad 1 c)
    (hown : w.ownsRow base 9 1 v L.length (scells L)) (hA : w.ownsRow b2 9 1 (.slice ad 1 c) 1 (scells [t])) (hL : L.length ≤ 1000) (hbase : base ≤ w.heap.size)
    (h : ∀ v' w', w'.ownsRow base 9 1 v' (L ++ [t]).length (scells (L ++ [t])) → w.grownBy w' v.ownBlock → wpList Try.prog ops Q rest (a.put o.dst v') w') : wpList Try.prog ops Q (o :: rest) a w := by
  obtain ⟨i, hi, hz, hsz, hby⟩ := sinfo
  rcases hA.2 with ⟨e, _⟩ | ⟨g, cap, cur, e, _, h3, _, _, _, h7⟩
  · cases e
  · cases e
    refine wpList_append_own w hgd s x 31 ho base 9 i _ 1 16 Try.underlying31 hi hz hsz hby rfl (by decide) v L.length (scells L) hs hown ⟨g, 0, none⟩ 1 c [.string t] hx rfl ?_ ?_ ?_ ?_ hbase ?_
    · intro j u hu
      cases j with
      | zero =>
        simp at hu
        rw [Addr.add_lit, cell_of_row _ _ _ _ _ _ h3, ← hu]
        have := congrArg (fun l => l[0]?) h7
        simp only [Nat.one_mul, List.getElem?_take, Array.getElem?_toList] at this
        exact this
      | succ j => simp at hu
    · intro u hu
      simp at hu
      rw [hu]
      rfl
    · unfold maxLen; omega
    · omega
    · intro v' w2 h2 h3' _
      exact h v' w2 (by rw [List.length_append, scells_append]; exact h2) h3'
/-- A text more. -/
theorem Lz.text {w q q' : World} {s links G : Nat} {tv tv' : Value} {ts ts' : List ByteArray} {vs : List Value} {Rm : List (List Fg)} {W : List Fg} {sq : Int} {lost : Nat} (h : Lz w q s links G tv ts vs Rm W sq lost) (hg : q.grownBy q' tv.ownBlock) (ho : q'.ownsRow w.heap.size 9 1 tv' ts'.length (scells ts')) : Lz w q' s links G tv' ts' vs Rm W sq lost := by
  refine ⟨ho, h.r.stay fun m cur S hm hS => (hg.block m (Array.getElem?_eq_some_iff.1 hm).1 (fun e => ?_)).trans hm, h.n, h.y, h.b.grown hg h.b.size (fun m hm => (World.ownsRow.lt h.t m hm).1), h.bG⟩
  rcases h.t.2 with ⟨e1, _⟩ | ⟨g', cap, cur', e1, _, e3, _⟩
  · rw [e1] at e; cases e
  · rw [e1] at e
    have eg : m = g' := Option.some.inj e
    rw [eg, e3] at hm
    injection hm with hm
    injection hm with _ hm
    rcases hS with hS | hS
    · rw [hS] at hm
      exact absurd hm (by decide)
    · rw [hS] at hm
      exact absurd hm (by decide)
theorem step_append_p {ops : Array Oper} {o : Oper} {a : Act} {K : Act → World → Prop} {Q : Exit → Act → World → Prop} {E : Prop} (W : World) (hgd : o.guard = none) (s x : Operand)
    (ho : o.op = .call { callee := .builtin .append, args := #[s, x], argTypes := #[25, 25] }) (base : Nat) (v sv : Value) (P F : List Fg) (hs : a.eval s = v) (hx : a.eval x = sv) (hv : HoldsP W base v P) (hsv : HoldsF W sv F) (hP : P.length ≤ 1000) (hF : F.length ≤ 1000) (hbase : base ≤ W.heap.size)
    (h : ∀ v' w', HoldsP w' base v' (P ++ F) → W.grownBy w' v.ownBlock → (∀ g, v'.ownBlock = some g → v.ownBlock = some g ∨ W.heap.size ≤ g) → K (a.put o.dst v') w') :
    if Region.wanted o (yielded ops a.tmps) = true then Oper.wp Try.prog o a W K Q else E := by
  have hw : Region.wanted o (yielded ops a.tmps) = true := by simp [Region.wanted, hgd]
  rw [if_pos hw]
  obtain ⟨v', w', hr, h2, h3, h4⟩ := run_append_p2 (W := W) o.type hv hsv hP hF hbase
  unfold Oper.wp execOp
  simp only [ho, resolve, invoke, builtin, Sem.run_bind, Sem.run_pure, Result.andThen_ok, List.map_toArray, List.map_cons, List.map_nil, hs, hx, hr]
  exact h v' w' h2 h3 h4
theorem HoldsG.grown9 {q q' : World} {u v : Value} {F : List Fg} (h : HoldsG q u F) (hg : q.grownBy q' v.ownBlock) (hne : ∀ m, u.ownBlock = some m → v.ownBlock ≠ some m) : HoldsG q' u F := by
  rcases h with h' | ⟨m, cp, cur, e1, h2, h3⟩
  · exact Or.inl h'
  · exact Or.inr ⟨m, cp, cur, e1, (hg.block m (Array.getElem?_eq_some_iff.1 h2).1 (fun e => hne m (by rw [e1]; rfl) e.symm)).trans h2, h3⟩
theorem HoldsG.set9 {q : World} {u x : Value} {F : List Fg} {G k : Nat} {cs : Array Value} (h : HoldsG q u F) (hG : q.heap[G]? = some (.cells cs 25)) : HoldsG (q.setCell ⟨G, k, none⟩ x) u F := by
  rcases h with h' | ⟨m, cp, cur, e1, h2, h3⟩
  · exact Or.inl h'
  · refine Or.inr ⟨m, cp, cur, e1, (Below.heap_setCell _ ⟨G, k, none⟩ _ _ (fun e => ?_)).trans h2, h3⟩
    have e' : m = G := e
    rw [e', hG] at h2
    injection h2 with h2
    injection h2 with _ h2
    exact absurd h2 (by decide)
/-- A part laid on a line. -/
theorem Lz.app {w q q' : World} {s links G : Nat} {tv : Value} {ts : List ByteArray} {vs : List Value} {Rm : List (List Fg)} {W : List Fg} {sq : Int} {lost : Nat} (h : Lz w q s links G tv ts vs Rm W sq lost) {k : Nat} {v v' : Value} {t : List Fg} {f : Fg} (hk : vs[k]? = some v) (ht : Rm[k]? = some t) (hg : q.grownBy q' v.ownBlock) (hv : HoldsP q' w.heap.size v' (t ++ [f])) (ho : ∀ m, v'.ownBlock = some m → v.ownBlock = some m ∨ q.heap.size ≤ m) (hf : f.seq = sq) :
    q'.heap[G]? = some (.cells vs.toArray 25) ∧ Lz w (q'.setCell ⟨G, k, none⟩ v') s links G tv ts (vs.set k v') (Rm.set k (t ++ [f])) (W ++ [f]) (sq + 1) lost := by
  obtain ⟨hb', hr'⟩ := h.r.app hk hg hv ho ht
  have hvk := h.r.row k v t hk ht
  have hown : ∀ m, v.ownBlock = some m → w.heap.size ≤ m ∧ ∃ cur, q.heap[m]? = some (.cells cur 33) := fun m hm => by
    rcases hvk with ⟨rfl, _⟩ | ⟨m', o, cp, cur, rfl, h2, h3, _⟩
    · cases hm
    · have e' : m' = m := Option.some.inj hm
      subst e'
      exact ⟨h3, cur, h2⟩
  refine ⟨hb', ?_, hr', by rw [List.length_set]; exact h.n, h.y.put ht hf, (h.b.grown hg h.b.size (fun m hm => (hown m hm).1)).setCell (p := ⟨G, k, none⟩) h.bG _, h.bG⟩
  refine ⟨h.t.1, h.t.2.imp id fun ⟨m, cap, cur, p1, p2, p3, p4⟩ => ⟨m, cap, cur, p1, p2, ?_, p4⟩⟩
  have h1 : q'.heap[m]? = some (.cells cur 9) := (hg.block m (Array.getElem?_eq_some_iff.1 p3).1 (fun e => by
    obtain ⟨_, cur2, h2⟩ := hown m e.symm
    rw [p3] at h2
    injection h2 with h2
    injection h2 with _ h2
    exact absurd h2 (by decide))).trans p3
  refine (Below.heap_setCell _ ⟨G, k, none⟩ _ _ (fun e => ?_)).trans h1
  have e' : m = G := e
  rw [e', hb'] at h1
  injection h1 with h1
  injection h1 with _ h1
  exact absurd h1 (by decide)
theorem cuts_flen (s : Nat) : ∀ (ts : List ByteArray) (q : Int), (cuts s q ts).flatten.length = cutsN s ts
  | [], q => rfl
  | t :: ts, q => by
    show (cutL t s q (cnt t.size s) :: cuts s (q + (cnt t.size s : Nat)) ts).flatten.length = cnt t.size s + cutsN s ts
    rw [List.flatten_cons, List.length_append, cutL_len, cuts_flen s ts]
theorem cut_small {t : ByteArray} {s q : Nat} (ht : t.size ≤ 7) (hs : 1 ≤ s ∧ s ≤ 4) (hq : q ≤ 100) : cutF t (s : Int) (q : Int) = cutL t s (q : Int) (cnt t.size s) ∧ cnt t.size s ≤ 7 := by
  have hc : cnt t.size s ≤ 7 := by
    unfold cnt
    have : (t.size + s - 1) / s ≤ 7 := by
      rw [Nat.div_le_iff_le_mul_add_pred (by omega)]
      have : s * 7 ≥ 7 := by omega
      omega
    omega
  refine ⟨?_, hc⟩
  unfold cutF
  rw [if_pos ⟨by omega, by omega, by omega⟩, Int.toNat_natCast, if_pos ⟨by omega, by omega⟩]
theorem cutsN_snoc (s : Nat) : ∀ (ts : List ByteArray) (t : ByteArray), cutsN s (ts ++ [t]) = cutsN s ts + cnt t.size s
  | [], t => by show cnt t.size s + 0 = 0 + _; omega
  | u :: ts, t => by
    show cnt u.size s + cutsN s (ts ++ [t]) = cnt u.size s + cutsN s ts + _
    rw [cutsN_snoc s ts]
    omega
theorem rrinfo : ∃ i, Try.prog.info? 25 = some i ∧ i.zero = some (.slice none 0 0) ∧ i.size = 1 ∧ i.bytes = 24 := by
  have h : (Try.prog.info? 25).map (fun i => (i.zero, i.size, i.bytes)) = some (some (.slice none 0 0), 1, 24) := by kernel_rfl
  obtain ⟨i, hi, hzz⟩ := Option.map_eq_some_iff.1 h
  simp only [Prod.mk.injEq] at hzz
  exact ⟨i, hi, hzz.1, hzz.2.1, hzz.2.2⟩
theorem rr_made {w w1 : World} {base n : Nat} (ho : w1.ownsRow base 25 1 (.slice (some ⟨w.heap.size, 0, none⟩) n n) n (madeCells (Value.slice none 0 0).cells (n * 1)).toList) : w1.heap[w.heap.size]? = some (.cells (List.replicate n (Value.slice none 0 0)).toArray 25) := by
  rcases ho.2 with ⟨e, _⟩ | ⟨g, cap, cur, e, _, h3, h4, _, h6, h7⟩
  · cases e
  · cases e
    rw [h3]
    congr 2
    rw [Nat.mul_one] at h6 h7
    rw [List.take_of_length_le (by simp; omega)] at h7
    have e1 : (madeCells (Value.slice none 0 0).cells n).toList = List.replicate n (.slice none 0 0) := toList_madeCells_one _ _
    rw [e1] at h7
    rw [← h7]
theorem Rw.start {W : World} {base g n : Nat} (h : W.heap[g]? = some (.cells (List.replicate n (Value.slice none 0 0)).toArray 25)) : Rw W base g (List.replicate n (Value.slice none 0 0)) (List.replicate n []) := by
  refine ⟨h, by rw [List.length_replicate, List.length_replicate], fun k v t h1 h2 => ?_, fun j k u v _ h1 _ m hm => ?_⟩
  · rw [List.getElem?_replicate] at h1 h2
    split at h1
    · cases h1
      rw [if_pos (by assumption)] at h2
      cases h2
      exact Or.inl ⟨rfl, rfl⟩
    · cases h1
  · rw [List.getElem?_replicate] at h1
    split at h1
    · cases h1
      cases hm
    · cases h1
/-- An answer of the bundle to a part that is heard. -/
theorem hear10 {L L' : List Int} {P P' : List Fg} {f : Fg} {G1 : List ByteArray} {n k : Nat} {a1 a2 : Option Addr} {c1 c2 : Nat} (z : World) (h : hearB L P (k : Int) f = ⟨L', P', G1, n, 0⟩) (hL : L.length ≤ 8) (hP : P.length ≤ 40) (h1 : HoldsI z (.slice a1 L.length c1) L) (h2 : HoldsG z (.slice a2 P.length c2) P) :
    Calls Try.prog 12 #[.agg #[.slice a1 L.length c1, .slice a2 P.length c2], .int .i64 (k : Int), fgV f] z fun e q => ∃ b1 b2 d1 d2 ga gc, e = .returned (.agg #[.slice b1 L'.length d1, .slice b2 P'.length d2, .slice ga G1.length gc, .int .i64 (n : Int), .int .i64 0]) ∧ HoldsI q (.slice b1 L'.length d1) L' ∧ HoldsG q (.slice b2 P'.length d2) P' ∧ q.ownsRow z.heap.size 9 1 (.slice ga G1.length gc) G1.length (scells G1) ∧ Below z.heap.size z q := by
  refine (iHearB a1 a2 c1 c2 L P (k : Int) f z (by omega) (by omega) h1 h2.f).mono fun e q hh => ?_
  rw [h] at hh
  obtain ⟨lv, pv, gv, rfl, o1, o2, o3, hb⟩ := hh
  obtain ⟨b1, d1, rfl⟩ := own_form o1
  obtain ⟨b2, d2, rfl⟩ := own_form o2
  obtain ⟨ga, gc, rfl⟩ := own_form o3
  exact ⟨b1, b2, d1, d2, ga, gc, rfl, HoldsI.own o1, HoldsG.own o2, o3, hb⟩
variable {w q q' : World} {G B : Nat} {vs : List Value} {Rm : List (List Fg)} {L L' : List Int} {P P' : List Fg} {a1 a2 a1' a2' : Option Addr} {c1 c2 c1' c2' : Nat} {gv gv' : Value} {Gt Gt' : List ByteArray} {tv : Value} {ts : List ByteArray}
/-- An answer besides, laid in a variable. -/
structure Lh (w q : World) (G B : Nat) (vs : List Value) (Rm : List (List Fg)) (L : List Int) (P : List Fg) (a1 a2 : Option Addr) (c1 c2 : Nat) (gv : Value) (Gt : List ByteArray) (tv : Value) (ts : List ByteArray) (M bs : Nat) (b1 b2 ga : Option Addr) (d1 d2 gc : Nat) (L' : List Int) (P' : List Fg) (G1 : List ByteArray) (n : Nat) : Prop where
  e : Lq w q G B vs Rm L P a1 a2 c1 c2 gv Gt tv ts
  m : q.heap[M]? = some (.cells #[.slice b1 L'.length d1, .slice b2 P'.length d2, .slice ga G1.length gc, .int .i64 (n : Int), .int .i64 0] 37)
  l : HoldsI q (.slice b1 L'.length d1) L'
  r : HoldsG q (.slice b2 P'.length d2) P'
  g : q.ownsRow bs 9 1 (.slice ga G1.length gc) G1.length (scells G1)
theorem Lh.put {M bs n : Nat} {b1 b2 ga : Option Addr} {d1 d2 gc : Nat} {G1 : List ByteArray} (h : Lq w q G B vs Rm L P a1 a2 c1 c2 gv Gt tv ts) (hM : q.heap[M]? = some (.cells #[.slice none 0 0, .slice none 0 0, .slice none 0 0, .int .i64 0, .int .i64 0] 37)) (hw : w.heap.size ≤ M) (hl : HoldsI q (.slice b1 L'.length d1) L') (hr : HoldsG q (.slice b2 P'.length d2) P') (hg : q.ownsRow bs 9 1 (.slice ga G1.length gc) G1.length (scells G1)) :
    Lh w (((((q.setCell ⟨M, 0, none⟩ (.slice b1 L'.length d1)).setCell ⟨M, 1, none⟩ (.slice b2 P'.length d2)).setCell ⟨M, 2, none⟩ (.slice ga G1.length gc)).setCell ⟨M, 3, none⟩ (.int .i64 (n : Int))).setCell ⟨M, 4, none⟩ (.int .i64 0)) G B vs Rm L P a1 a2 c1 c2 gv Gt tv ts M bs b1 b2 ga d1 d2 gc L' P' G1 n := by
  have k : Sty 37 q (((((q.setCell ⟨M, 0, none⟩ (.slice b1 L'.length d1)).setCell ⟨M, 1, none⟩ (.slice b2 P'.length d2)).setCell ⟨M, 2, none⟩ (.slice ga G1.length gc)).setCell ⟨M, 3, none⟩ (.int .i64 (n : Int))).setCell ⟨M, 4, none⟩ (.int .i64 0)) := by
    intro g cur S hg hS
    refine (set5_ot ?_ _ _ _ _ _).trans hg
    intro e
    subst e
    rw [hM] at hg
    injection hg with hg
    injection hg with _ hg
    exact hS hg.symm
  exact ⟨h.sty k (set5_bl h.bw hw _ _ _ _ _) (by decide) (by decide) (by decide) (by decide) (by decide), set5_bo hM _ _ _ _ _, hl.sty (by decide) k, hr.sty (by decide) k, own_sty hg (by decide) k⟩
theorem Lh.next {M bs n : Nat} {b1 b2 ga : Option Addr} {d1 d2 gc : Nat} {G1 : List ByteArray} (h : Lh w q G B vs Rm L P a1 a2 c1 c2 gv Gt tv ts M bs b1 b2 ga d1 d2 gc L' P' G1 n) :
    Lq w ((q.setCell ⟨B, 0, none⟩ (.slice b1 L'.length d1)).setCell ⟨B, 1, none⟩ (.slice b2 P'.length d2)) G B vs Rm L' P' b1 b2 d1 d2 gv Gt tv ts ∧
      ((q.setCell ⟨B, 0, none⟩ (.slice b1 L'.length d1)).setCell ⟨B, 1, none⟩ (.slice b2 P'.length d2)).heap[M]? = some (.cells #[.slice b1 L'.length d1, .slice b2 P'.length d2, .slice ga G1.length gc, .int .i64 (n : Int), .int .i64 0] 37) ∧
      ((q.setCell ⟨B, 0, none⟩ (.slice b1 L'.length d1)).setCell ⟨B, 1, none⟩ (.slice b2 P'.length d2)).ownsRow bs 9 1 (.slice ga G1.length gc) G1.length (scells G1) := by
  obtain ⟨h1, k⟩ := h.e.setB h.l h.r
  exact ⟨h1, k _ _ _ h.m (by decide), own_sty h.g (by decide) k⟩
theorem append_ts2 {W : World} {ops : Array Oper} {rest : List Oper} {o : Oper} {a : Act} {Q : Exit → Act → World → Prop} (hgd : o.guard = none) (s x : Operand)
    (ho : o.op = .call { callee := .builtin .append, args := #[s, x], argTypes := #[31, 31] }) (base b2 : Nat) (v sv : Value) (G F : List ByteArray) (hs : a.eval s = v) (hx : a.eval x = sv) (hv : W.ownsRow base 9 1 v G.length (scells G)) (hsv : W.ownsRow b2 9 1 sv F.length (scells F)) (hG : G.length ≤ 1048576) (hF : F.length ≤ 1048576) (hbase : base ≤ W.heap.size)
    (h : ∀ v' w', w'.ownsRow base 9 1 v' (G ++ F).length (scells (G ++ F)) → W.grownBy w' v.ownBlock → (∀ m, v'.ownBlock = some m → v.ownBlock = some m ∨ W.heap.size ≤ m) → wpList Try.prog ops Q rest (a.put o.dst v') w') : wpList Try.prog ops Q (o :: rest) a W := by
  refine wpList_plain hgd fun K hK => ?_
  obtain ⟨v', w', hr, h2, h3, h4⟩ := run_append_ts2 (W := W) o.type hv hsv hG hF hbase
  unfold Oper.wp execOp
  simp only [ho, resolve, invoke, builtin, Sem.run_bind, Sem.run_pure, Result.andThen_ok, List.map_toArray, List.map_cons, List.map_nil, hs, hx, hr]
  exact hK _ _ (h v' w' h2 h3 h4)
/-- A line's row without its first part. -/
theorem slice_tail (g o n cp : Nat) : ∃ b : Addr, (1 < cp → b = ⟨g, o + 4, none⟩) ∧ ∀ z : World, (Instr.slice 25 (.slice (some ⟨g, o, none⟩) (n + 1) cp) (some (.int .i64 1)) none none).run Try.prog z = .ok (.slice (some b) n (cp - 1)) z := by
  refine ⟨if cp = 1 then ⟨g, o, none⟩ else ⟨g, o + 4, none⟩, fun h => by rw [if_neg (by omega)], fun z => ?_⟩
  have h := slice_gl z (some ⟨g, o, none⟩) (n + 1) cp 1 (by omega)
  rw [show n + 1 - 1 = n by omega] at h
  rw [show ((1 : Nat) : Int) = 1 from rfl] at h
  rw [h]
  by_cases e : cp = 1
  · rw [if_pos e, if_pos e]
  · rw [if_neg e, if_neg e]
    rfl
/-- What is got is among the texts, and not ahead. -/
theorem got_in {s : Nat} (hs : 1 ≤ s) {ts : List ByteArray} (ht : TsOk ts) (h5 : ts.length ≤ 5) {GI : List Nat} (hn : GI.Nodup) (hl : ∀ j ∈ GI, j < ts.length) (i : Nat) (hi : i < (GI.map fun j => catP (((cuts s 0 ts)[j]?).getD [])).length) :
    inT ts ((GI.map fun j => catP (((cuts s 0 ts)[j]?).getD []))[i]'hi) = true ∧ inT ((GI.map fun j => catP (((cuts s 0 ts)[j]?).getD [])).take i) ((GI.map fun j => catP (((cuts s 0 ts)[j]?).getD []))[i]'hi) = false := by
  have hi' : i < GI.length := by simpa using hi
  have hg : ∀ k (h : k < GI.length), (GI.map fun j => catP (((cuts s 0 ts)[j]?).getD []))[k]'(by simpa using h) = ts[GI[k]]'(hl _ (List.getElem_mem h)) := fun k h => by
    rw [List.getElem_map]
    exact cuts_text s hs ts 0 GI[k] (hl _ (List.getElem_mem h))
  rw [hg i hi']
  refine ⟨List.any_eq_true.2 ⟨_, List.getElem_mem (hl _ (List.getElem_mem hi')), by simp⟩, ?_⟩
  refine List.any_eq_false.2 fun x hx => ?_
  obtain ⟨k, hk, e⟩ := List.mem_take_iff_getElem.1 hx
  have hk2 : k < GI.length := by have := hk; simp at this; omega
  have hki : k < i := by omega
  rw [hg k hk2] at e
  subst e
  intro heq
  have e2 := eq_of_beq heq
  rw [ByteArray.toList_eq, ByteArray.toList_eq] at e2
  obtain ⟨r1, q1, _⟩ := ht GI[k] (hl _ (List.getElem_mem hk2))
  obtain ⟨r2, q2, _⟩ := ht GI[i] (hl _ (List.getElem_mem hi'))
  rw [q1, q2] at e2
  injection e2 with e3 _
  have b1 := hl _ (List.getElem_mem hk2)
  have b2 := hl _ (List.getElem_mem hi')
  have e4 := congrArg UInt8.toNat e3
  rw [UInt8.toNat_ofNat', UInt8.toNat_ofNat', Nat.mod_eq_of_lt (by omega), Nat.mod_eq_of_lt (by omega)] at e4
  have e5 : GI[k] = GI[i] := by omega
  have := (List.getElem_inj hn).1 e5
  omega
theorem cuts_ok {s : Nat} (hs : s ≤ 4) {ts : List ByteArray} : ∀ (q : Int), 0 ≤ q → q + (cutsN s ts : Int) ≤ 1000 → ∀ x ∈ (cuts s q ts).flatten, fgOk x = true := by
  induction ts with
  | nil => intro q _ _ x hx; cases hx
  | cons t ts ih =>
    intro q hq hn x hx
    have hn2 : q + ((cnt t.size s + cutsN s ts : Nat) : Int) ≤ 1000 := hn
    rcases cuts_mem.1 hx with h | h
    · obtain ⟨i, hi, rfl⟩ := cutL_mem.1 h
      exact part_ok (by omega) hq (by omega) hi
    · exact ih (q + (cnt t.size s : Nat)) (by omega) (by omega) x h
theorem own_cap8 {q : World} {base n c sz : Nat} {e : TypeId} {ad : Option Addr} {xs : List Value} (h : q.ownsRow base e sz (.slice ad n c) n xs) : n ≤ c := by
  rcases h.2 with ⟨e1, e2⟩ | ⟨g, cap, cur, e1, _, _, h4, _⟩
  · rw [e2]; exact Nat.zero_le _
  · cases e1
    exact h4
/-- A row of texts without those behind. -/
theorem HoldsT.take9 {q : World} {ad : Option Addr} {cp : Nat} {L : List ByteArray} (h : HoldsT q (.slice ad L.length cp) L) (i : Nat) (hi : i < L.length) : ∃ g, ad = some ⟨g, 0, none⟩ ∧ q.cell? ⟨g, i, none⟩ = some (.string L[i]) ∧ HoldsT q (.slice (some ⟨g, 0, none⟩) i cp) (L.take i) := by
  rcases h with ⟨_, _, _, e⟩ | ⟨g, cp', cur, e, q1, q2, q3⟩
  · rw [e] at hi; exact absurd hi (Nat.not_lt_zero _)
  · cases e
    refine ⟨g, rfl, by rw [cell_of_row _ _ _ _ _ _ q1, q3 i hi]; exact scells_get L i _ (List.getElem?_eq_getElem hi), Or.inr ⟨g, cp, cur, by rw [List.length_take, Nat.min_eq_left (Nat.le_of_lt hi)], q1, by rw [List.length_take]; omega, fun j hj => ?_⟩⟩
    rw [List.length_take] at hj
    rw [q3 j (by omega)]
    unfold scells
    rw [List.map_take, List.getElem?_take, if_pos (by omega)]
theorem elemT9 : Try.prog.elem 31 = 9 := by kernel_rfl
theorem slice_t (z : World) (g n cp h : Nat) (hh : h ≤ cp) : (Instr.slice 31 (.slice (some ⟨g, 0, none⟩) n cp) none (some (.int .i64 (h : Int))) none).run Try.prog z = .ok (.slice (some ⟨g, 0, none⟩) h cp) z := by
  have hs := Try.sizeOf9 z
  rw [run_slice_h (P := Try.prog) (w := z) 31 _ n cp (by rw [elemT9]; exact Try.underlying31) .i64 (h : Int) (by omega) (by omega), elemT9, hs]
  simp [Result.andThen, sliced, Addr.add]
theorem nodup_le : ∀ (n : Nat) (G : List Nat), G.Nodup → (∀ i ∈ G, i < n) → G.length ≤ n
  | 0, G, _, h => by
    cases G with
    | nil => exact Nat.le_refl _
    | cons a G => exact absurd (h a List.mem_cons_self) (Nat.not_lt_zero _)
  | n + 1, G, hd, h => by
    by_cases hn : n ∈ G
    · have := nodup_le n (G.erase n) (hd.erase n) (fun i hi => by
        have h1 := h i (List.mem_of_mem_erase hi)
        have h2 : i ≠ n := fun e => by
          subst e
          exact hd.not_mem_erase hi
        omega)
      rw [List.length_erase_of_mem hn] at this
      omega
    · have := nodup_le n G hd (fun i hi => by
        have h1 := h i hi
        have h2 : i ≠ n := fun e => hn (e ▸ hi)
        omega)
      omega
end Go.Proofs.Ytfkeokfmancgiaa
