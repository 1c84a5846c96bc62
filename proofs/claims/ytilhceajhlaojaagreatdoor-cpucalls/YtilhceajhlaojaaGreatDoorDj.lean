import Derived.Test.YtilhceajhlaojaaGreatDoorZ20
namespace Go.Proofs.YtilhceajhlaojaaGreatDoor
open Go.RowKit
set_option linter.unusedVariables false
set_option linter.unusedSimpArgs false
/-- While a step is looked for: the line, the processor, the box of the answer, that of what it came to. -/
structure MX (W v : World) (q0 q1 cb lo lb : Nat) (pv hv av : Value) (l' : Ln) (R : List Int) (line : Bool) (t : Tk) : Prop where
  lq : ∃ av', LX v lo lb pv hv av' l' ∧ (∀ g, LO lb pv hv av' g → LO lb pv hv av g ∨ W.heap.size ≤ g) ∧ ¬ LO lb pv hv av' q0 ∧ ¬ LO lb pv hv av' q1
  turn : Turn (LO lb pv hv av) W v
  cpu : RB v cb 86 R [.bool line]
  b0 : Bl v q0 50 (tkL tkZ)
  b1 : Bl v q1 50 (tkL t)
  h0 : W.heap.size ≤ q0
  h1 : W.heap.size ≤ q1
  n01 : q0 ≠ q1
  hc : cb < W.heap.size
  mc : ¬ LO lb pv hv av cb
  te : TE v
theorem MX.step {W v v' : World} {q0 q1 cb lo lb : Nat} {pv hv av : Value} {l' : Ln} {R : List Int} {line : Bool} {t : Tk} (h : MX W v q0 q1 cb lo lb pv hv av l' R line t) (hb : Below v.heap.size v v') : MX W v' q0 q1 cb lo lb pv hv av l' R line t :=
  ⟨by obtain ⟨a, h1, h2⟩ := h.lq; exact ⟨a, h1.below hb, h2⟩, h.turn.then (Turn.below hb), h.cpu.below hb, h.b0.below hb, h.b1.below hb, h.h0, h.h1, h.n01, h.hc, h.mc, h.te.below hb⟩
theorem MX.drew {W v : World} {q0 q1 cb lo lb : Nat} {pv hv av : Value} {l' : Ln} {R : List Int} {line : Bool} {t : Tk} (h : MX W v q0 q1 cb lo lb pv hv av l' R line t) : MX W v.drew q0 q1 cb lo lb pv hv av l' R line t :=
  ⟨by obtain ⟨a, h1, h2⟩ := h.lq; exact ⟨a, h1.drew, h2⟩, h.turn.drew, h.cpu.drew, h.b0.drew, h.b1.drew, h.h0, h.h1, h.n01, h.hc, h.mc, h.te.drew⟩
/-- What it came to is laid down anew. -/
theorem MX.put {W v : World} {q0 q1 cb lo lb : Nat} {pv hv av : Value} {l' : Ln} {R : List Int} {line : Bool} {t : Tk} (h : MX W v q0 q1 cb lo lb pv hv av l' R line t) (hl : 4 < W.heap.size) (j : Nat) (u : Value) (t' : Tk) (ht : (tkL t).set j u = tkL t') : MX W (v.setCell ⟨q1, j, none⟩ u) q0 q1 cb lo lb pv hv av l' R line t' := by
  obtain ⟨a, k1, k2, k3, k4⟩ := h.lq
  have hT : TA q1 v (v.setCell ⟨q1, j, none⟩ u) := TA.set (Turn.refl _ _) j u
  have hh := h.h1
  have hcc := h.hc
  refine ⟨⟨a, k1.turn hT (fun g hg e => k4 ((show g = q1 from e) ▸ hg)), k2, k3, k4⟩, h.turn.trans hT (fun x hx => .inr ?_), RB.turn h.cpu hT (fun e => ?_), h.b0.turn hT (fun e => h.n01 e), ?_, h.h0, h.h1, h.n01, h.hc, h.mc, h.te.turn hT (fun g e => ?_)⟩
  · have e : x = q1 := hx
    omega
  · have e : cb = q1 := e
    omega
  · rw [← ht]
    exact h.b1.set j u
  · have e : g = q1 := e
    omega
/-- A fetch. -/
theorem MX.acc {W v v' : World} {q0 q1 cb lo lb : Nat} {pv hv av : Value} {l' l'' : Ln} {R : List Int} {line : Bool} {t : Tk} (h : MX W v q0 q1 cb lo lb pv hv av l' R line t) (hlo : 4 < lo) (av' : Value) (h0 : LX v lo lb pv hv av' l') (h1 : ∀ g, LO lb pv hv av' g → LO lb pv hv av g ∨ W.heap.size ≤ g) (h3 : ¬ LO lb pv hv av' q0) (h4 : ¬ LO lb pv hv av' q1) (hq : LQ v v' lo lb pv hv av' l'') : MX W v' q0 q1 cb lo lb pv hv av l'' R line t := by
  obtain ⟨av2, k1, k2, k3⟩ := hq
  have hs := h.turn.size
  have hl0 := h.b0.lt
  have hl1 := h.b1.lt
  have n1 : ¬ LO lb pv hv av' cb := fun e => by
    rcases h1 cb e with h5 | h5
    · exact h.mc h5
    · have := h.hc; omega
  refine ⟨⟨av2, k1, fun g hg => ?_, fun e => ?_, fun e => ?_⟩, h.turn.trans k2 (fun x hx => h1 x hx), RB.turn h.cpu k2 n1, h.b0.turn k2 h3, h.b1.turn k2 h4, h.h0, h.h1, h.n01, h.hc, h.mc, h.te.turn k2 (fun g hg => ?_)⟩
  · rcases k3 g hg with h5 | h5
    · exact h1 g h5
    · exact .inr (by omega)
  · rcases k3 q0 e with h5 | h5
    · exact h3 h5
    · omega
  · rcases k3 q1 e with h5 | h5
    · exact h4 h5
    · omega
  · have := h0.ge hg
    omega
def nxT (a : Int) : Tk := ⟨0, a, 0, 0, 0, 0, 0, false⟩
theorem MX.first {w : World} {cb lo lb : Nat} {pv hv av : Value} {l : Ln} {R : List Int} {line : Bool} (hc : RB w cb 86 R [.bool line]) (hx : LX w lo lb pv hv av l) (mc : ¬ LO lb pv hv av cb) (te : TE w) (a : Int) : MX w ((w.alloc (.cells (tkL tkZ).toArray 50)).alloc (.cells (tkL (nxT a)).toArray 50)) w.heap.size (w.heap.size + 1) cb lo lb pv hv av l R line (nxT a) := by
  have b1 := below_new w (.cells (tkL tkZ).toArray 50)
  have b2 := below_new (w.alloc (.cells (tkL tkZ).toArray 50)) (.cells (tkL (nxT a)).toArray 50)
  have hb := Below.step b1 b2
  have h2 := Bl.new (w.alloc (.cells (tkL tkZ).toArray 50)) 50 (tkL (nxT a))
  rw [World.size_alloc] at h2
  exact ⟨⟨av, hx.below hb, fun g hg => .inl hg, LO_lt (v := w) hx (Nat.le_refl _), LO_lt (v := w) hx (Nat.le_succ _)⟩, Turn.below hb, hc.below hb, (Bl.new w 50 (tkL tkZ)).below b2, h2, Nat.le_refl _, Nat.le_succ _, by omega, hc.bl.lt, mc, te.below hb⟩
set_option maxRecDepth 100000 in
theorem nilA (lb : Nat) (w : World) : (nilAhead 294 42 (.pointer (some ⟨lb, 0, none⟩)) "Access").run Tryz.prog w = .ok (some false) w := by kernel_rfl
/-- The box of the answer filled. -/
theorem MX.fill {W v : World} {q0 q1 q6 cb lo lb : Nat} {pv hv av av' : Value} {l' : Ln} {R : List Int} {line : Bool} {t : Tk} (h : MX W v q0 q1 cb lo lb pv hv av l' R line t) (hl : 4 < W.heap.size) (hx : LX v lo lb pv hv av' l') (ho : ∀ g, LO lb pv hv av' g → LO lb pv hv av g ∨ W.heap.size ≤ g) (n0 : ¬ LO lb pv hv av' q0) (n1 : ¬ LO lb pv hv av' q1) (n6 : ¬ LO lb pv hv av' q6) (hq : Bl v q6 119 anZ) (hz : W.heap.size ≤ q6) (m0 : q6 ≠ q0) (m1 : q6 ≠ q1) (V : Int) :
    MX W (v.setCells q6 0 [.int .u32 V, .int .i64 0, .int .i64 0, .int .i64 0]) q0 q1 cb lo lb pv hv av l' R line t ∧ Bl (v.setCells q6 0 [.int .u32 V, .int .i64 0, .int .i64 0, .int .i64 0]) q6 119 [.int .u32 V, .int .i64 0, .int .i64 0, .int .i64 0] := by
  have hT : TA q6 v (v.setCells q6 0 [.int .u32 V, .int .i64 0, .int .i64 0, .int .i64 0]) := set_turn _ 0 v v (Turn.refl _ _)
  have hcc := h.hc
  refine ⟨⟨⟨av', hx.turn hT (fun g hg e => n6 ((show g = q6 from e) ▸ hg)), ho, n0, n1⟩, h.turn.trans hT (fun x hx => .inr ?_), RB.turn h.cpu hT (fun e => ?_), h.b0.turn hT (fun e => m0 e.symm), h.b1.turn hT (fun e => m1 e.symm), h.h0, h.h1, h.n01, h.hc, h.mc, h.te.turn hT (fun g e => ?_)⟩, set_all hq rfl⟩
  · have e : x = q6 := hx
    omega
  · have e : cb = q6 := e
    omega
  · have e : g = q6 := e
    omega
/-- What stands behind a step, ahead of its exception. -/
structure NQ (W v : World) (cb lo lb : Nat) (pv hv av : Value) (l' : Ln) (R : List Int) : Prop where
  lq : ∃ av', LX v lo lb pv hv av' l' ∧ ∀ g, LO lb pv hv av' g → LO lb pv hv av g ∨ W.heap.size ≤ g
  turn : Turn (fun x => x = cb ∨ LO lb pv hv av x) W v
  cpu : RB v cb 86 R [.bool false]
theorem MX.ans {W v : World} {q0 q1 cb lo lb : Nat} {pv hv av : Value} {l' : Ln} {R : List Int} {t : Tk} (h : MX W v q0 q1 cb lo lb pv hv av l' R false t) (t' : Tk) : NQ W (v.setCells q0 0 (tkL t')) cb lo lb pv hv av l' R ∧ Bl (v.setCells q0 0 (tkL t')) q0 50 (tkL t') := by
  obtain ⟨a, k1, k2, k3, k4⟩ := h.lq
  have hT : TA q0 v (v.setCells q0 0 (tkL t')) := set_turn _ 0 v v (Turn.refl _ _)
  have hh := h.h0
  have hcc := h.hc
  refine ⟨⟨⟨a, k1.turn hT (fun g hg e => k3 ((show g = q0 from e) ▸ hg)), k2⟩, ?_, RB.turn h.cpu hT (fun e => ?_)⟩, set_all h.b0 rfl⟩
  · have := h.turn.trans hT (fun x hx => .inr (by have e : x = q0 := hx; omega))
    exact ⟨this.os, this.tape, this.output, this.size, fun k hk hn => this.block k hk (fun e => hn (.inr e))⟩
  · have e : cb = q0 := e
    omega
theorem DQ.fin {W u2 u3 : World} {q0 q1 q7 cb b lo lb : Nat} {pv hv av av' : Value} {l1 l' : Ln} {R R' : List Int} {t : Tk} {IL : List Value} (h : MX W u2 q0 q1 cb lo lb pv hv av l1 R false t) (ho : ∀ g, LO lb pv hv av' g → LO lb pv hv av g ∨ W.heap.size ≤ g) (n0 : ¬ LO lb pv hv av' q0) (n1 : ¬ LO lb pv hv av' q1) (n7 : ¬ LO lb pv hv av' q7) (h7 : Bl u2 q7 35 IL) (w7 : W.heap.size ≤ q7) (m7 : q7 ≠ q0) (hb : W.heap.size ≤ b) (b0 : q0 ≠ b) (b1 : q1 ≠ b) (b7 : q7 ≠ b) (hq : DQ u2 u3 cb b lo lb pv hv av' l' R' false) :
    (RB u3 cb 86 R' [.bool false] ∧ Bl u3 q7 35 IL ∧ Bl u3 q1 50 (tkL t) ∧ Bl u3 q0 50 (tkL tkZ)) ∧ ∀ t', NQ W (u3.setCells q0 0 (tkL t')) cb lo lb pv hv av l' R' ∧ Bl (u3.setCells q0 0 (tkL t')) q0 50 (tkL t') ∧ Bl (u3.setCells q0 0 (tkL t')) q7 35 IL ∧ Bl (u3.setCells q0 0 (tkL t')) q1 50 (tkL t) := by
  have hc := h.hc
  have hh0 := h.h0
  have hh1 := h.h1
  have hl0 := h.b0.lt
  have hs := h.turn.size
  obtain ⟨a2, k1, k2⟩ := hq.lq
  have T7 : ¬ (q7 = cb ∨ q7 = b ∨ LO lb pv hv av' q7) := fun e => by rcases e with e | e | e <;> first | omega | exact n7 e
  have T1 : ¬ (q1 = cb ∨ q1 = b ∨ LO lb pv hv av' q1) := fun e => by rcases e with e | e | e <;> first | omega | exact n1 e
  have T0 : ¬ (q0 = cb ∨ q0 = b ∨ LO lb pv hv av' q0) := fun e => by rcases e with e | e | e <;> first | omega | exact n0 e
  have g7 := h7.turn hq.turn T7
  have g1 := h.b1.turn hq.turn T1
  have g0 := h.b0.turn hq.turn T0
  refine ⟨⟨hq.cpu, g7, g1, g0⟩, fun t' => ?_⟩
  have hT : TA q0 u3 (u3.setCells q0 0 (tkL t')) := set_turn _ 0 u3 u3 (Turn.refl _ _)
  have hTT : Turn (fun x => x = cb ∨ LO lb pv hv av x) W u3 := by
    have h1 : Turn (fun x => x = cb ∨ LO lb pv hv av x) W u2 := ⟨h.turn.os, h.turn.tape, h.turn.output, h.turn.size, fun k hk hn => h.turn.block k hk (fun e => hn (.inr e))⟩
    refine h1.trans hq.turn (fun x hx => ?_)
    rcases hx with e | e | e
    · exact .inl (.inl e)
    · exact .inr (by omega)
    · rcases ho x e with h5 | h5
      · exact .inl (.inr h5)
      · exact .inr h5
  refine ⟨⟨⟨a2, k1.turn hT (fun g hg e => ?_), fun g hg => ?_⟩, hTT.trans hT (fun x hx => .inr ?_), RB.turn hq.cpu hT (fun e => ?_)⟩, set_all g0 rfl, g7.turn hT m7, g1.turn hT (fun e => h.n01 (show q1 = q0 from e).symm)⟩
  · have e : g = q0 := e
    subst e
    rcases k2 g hg with h5 | h5
    · exact n0 h5
    · omega
  · rcases k2 g hg with h5 | h5
    · exact ho g h5
    · exact .inr (by omega)
  · have e : x = q0 := hx
    omega
  · have e : cb = q0 := e
    omega
set_option maxRecDepth 100000 in
set_option maxHeartbeats 2000000 in
theorem gnext (w : World) (cb lo lb : Nat) (pv hv av : Value) (l : Ln) (R : List Int) (hc : RB w cb 86 R [.bool false]) (hx : LX w lo lb pv hv av l) (mc : ¬ LO lb pv hv av cb) (te : TE w) (hlo : 4 < lo) (ho : LOk l) (hn : l.asked.length ≤ 400000000000) (hh : l.holes = []) (h4 : rg R 28 % 4 = 0) (t' : Tk) (l' : Ln) (R' : List Int)
    (hund : Is.decP (wdK l.puts (rg R 28) l.puts.length).toNat = none → t' = ⟨1, rg R 28, wdK l.puts (rg R 28) l.puts.length, 0, 0, 0, 0, false⟩ ∧ l' = { l with asked := l.asked ++ [askP 1 (rg R 28) 0 (!(mdR R == 16))] } ∧ R' = R)
    (hdo : ∀ i, Is.decP (wdK l.puts (rg R 28) l.puts.length).toNat = some i → ∀ v b av', RB v cb 86 R [.bool false] → DB v b R false (busV lb) i ⟨0, rg R 28, wdK l.puts (rg R 28) l.puts.length, 0, 0, 0, 0, false⟩ → LX v lo lb pv hv av' { l with asked := l.asked ++ [askP 1 (rg R 28) 0 (!(mdR R == 16))] } → cb ≠ b → ¬ LO lb pv hv av' cb → ¬ LO lb pv hv av' b → Calls Tryz.prog 51 #[.pointer (some ⟨cb, 0, none⟩), .pointer (some ⟨b, 0, none⟩)] v fun e w' => e = .returned (.agg (tkA t')) ∧ DQ v w' cb b lo lb pv hv av' l' R' false) :
    Calls Tryz.prog 34 #[.pointer (some ⟨cb, 0, none⟩), busV lb] w fun e w' => e = .returned (.agg (tkA t')) ∧ NQ w w' cb lo lb pv hv av l' R' := by
  have HX := hidW (MX.first hc hx mc te (rg R 28))
  have c28 : ∀ o, (w.alloc o).cell? ⟨cb, 28, none⟩ = some (.int .u32 (rg R 28)) := fun o => cell_keep (hc.rs.cell 28 (by decide)) (below_new _ _)
  have c30 : ∀ o o', ((w.alloc o).alloc o').cell? ⟨cb, 30, none⟩ = some (.bool false) := fun o o' => cell_keep (cell_keep (hc.ext 0 30 rfl) (below_new _ _)) (below_new _ _)
  have HL : Hid (LX ((w.alloc (.cells (tkL tkZ).toArray 50)).alloc (.cells (tkL (nxT (rg R 28))).toArray 50)) lo lb pv hv av l) := hx.below (Below.step (below_new _ _) (below_new _ _))
  have HLw : Hid (∀ g, LO lb pv hv av g → g < w.heap.size) := fun g hg => hx.lt hg
  have h4w : 4 < w.heap.size := te.size
  have hpr := hc.ok.rng 28
  have HM : Hid (∀ v, RB v cb 86 R [.bool false] → Calls Tryz.prog 50 #[.pointer (some ⟨cb, 0, none⟩)] v fun e w' => e = .returned (.bool (mdR R == 16)) ∧ w' = v) := fun v h => gisUser v cb R (RB.rs h)
  have HA : Hid (∀ v, MX w v w.heap.size (w.heap.size + 1) cb lo lb pv hv av l R false (nxT (rg R 28)) → LX v lo lb pv hv av l → Calls Tryz.prog 147 #[.pointer (some ⟨lb, 0, none⟩), .agg #[.int .i64 1, .int .u32 (rg R 28), .int .i64 4, .int .u32 0, .bool (!(mdR R == 16))]] v fun e w' => e = .returned (.agg #[.int .u32 (wdK l.puts (rg R 28) l.puts.length), .int .i64 0, .int .i64 0, .int .i64 0]) ∧ ∃ av', LX w' lo lb pv hv av' { l with asked := l.asked ++ [askP 1 (rg R 28) 0 (!(mdR R == 16))] } ∧ Turn (LO lb pv hv av) v w' ∧ (∀ g, LO lb pv hv av' g → LO lb pv hv av g ∨ v.heap.size ≤ g) ∧ (∀ g, LO lb pv hv av' g → LO lb pv hv av g ∨ w.heap.size ≤ g) ∧ ¬ LO lb pv hv av' w.heap.size ∧ ¬ LO lb pv hv av' (w.heap.size + 1) ∧ MX w w' w.heap.size (w.heap.size + 1) cb lo lb pv hv av { l with asked := l.asked ++ [askP 1 (rg R 28) 0 (!(mdR R == 16))] } R false (nxT (rg R 28))) := fun v hm hl => by
    have hs := hm.turn.size
    have hl1 := hm.b1.lt
    have hll := hx.low
    have hxl := hx.bl.lt
    refine (gaccess0 v lo lb pv hv av l 1 (rg R 28) 0 _ hl ho (by omega) hn hh (by decide) hpr h4).mono ?_
    rintro e w' ⟨rfl, av', k1, k2, k3⟩
    have m0 : ¬ LO lb pv hv av' w.heap.size := fun e => by
      rcases k3 _ e with h5 | h5
      · have := hx.lt h5; omega
      · omega
    have m1 : ¬ LO lb pv hv av' (w.heap.size + 1) := fun e => by
      rcases k3 _ e with h5 | h5
      · have := hx.lt h5; omega
      · omega
    have n0 : ¬ LO lb pv hv av w.heap.size := fun e => by have := hx.lt e; omega
    have n1 : ¬ LO lb pv hv av (w.heap.size + 1) := fun e => by have := hx.lt e; omega
    exact ⟨rfl, av', k1, k2, k3, fun g hg => (k3 g hg).imp_right (fun h5 => by omega), m0, m1, hm.acc hlo av hl (fun g hg => .inl hg) n0 n1 ⟨av', k1, k2, k3⟩⟩
  have hVr := wdK_range ho.puts (rg R 28) l.puts.length
  generalize wdK l.puts (rg R 28) l.puts.length = V at *
  have HDc : Hid (∀ v, Is.TP v → Calls Tryz.prog 12 #[.int .u32 V] v fun e w' => e = .returned (.tuple #[.agg (Is.insA ((Is.decP V.toNat).getD Is.insZ)), .bool (Is.decP V.toNat).isSome]) ∧ Below v.heap.size v w') := fun v hv => by
    have := Is.gdec_any V.toNat v hv (nat_of hVr).2
    rw [(nat_of hVr).1] at this
    exact this
  generalize (mdR R == 16) = us at *
  have hmth := mthA lb
  have hnil := nilA lb
  unfold busV
  clear hc hx te ho hn hh h4
  go_enter Tryz.func34, Tryz.ntmps34
  go_wp2
  change Hid (MX w ((w.alloc (.cells #[.int .i64 0, .int .u32 0, .int .u32 0, .int .u32 0, .int .i64 0, .int .i64 0, .int .i64 0, .bool false] 50)).alloc (.cells #[.int .i64 0, .int .u32 (rg R 28), .int .u32 0, .int .u32 0, .int .i64 0, .int .i64 0, .int .i64 0, .bool false] 50)) _ _ _ _ _ _ _ _ _ _ _ _) at HX
  change Hid (LX ((w.alloc (.cells #[.int .i64 0, .int .u32 0, .int .u32 0, .int .u32 0, .int .i64 0, .int .i64 0, .int .i64 0, .bool false] 50)).alloc (.cells #[.int .i64 0, .int .u32 (rg R 28), .int .u32 0, .int .u32 0, .int .i64 0, .int .i64 0, .int .i64 0, .bool false] 50)) _ _ _ _ _ _) at HL
  generalize ((w.alloc (.cells #[.int .i64 0, .int .u32 0, .int .u32 0, .int .u32 0, .int .i64 0, .int .i64 0, .int .i64 0, .bool false] 50)).alloc (.cells #[.int .i64 0, .int .u32 (rg R 28), .int .u32 0, .int .u32 0, .int .i64 0, .int .i64 0, .int .i64 0, .bool false] 50)) = w0 at HX HL ⊢
  go_cut [6] from 9 (fun s6 wx => ∃ q6, s6 = .pointer (some ⟨q6, 0, none⟩) ∧ MX w wx w.heap.size (w.heap.size + 1) cb lo lb pv hv av { l with asked := l.asked ++ [askP 1 (rg R 28) 0 (!us)] } R false (nxT (rg R 28)) ∧ Bl wx q6 119 [.int .u32 V, .int .i64 0, .int .i64 0, .int .i64 0])
  case first =>
    have HX := hidW HX.out.drew
    have HL := hidW HL.out.drew
    refine wp_region_held_drew (S := fun v => v.cell? ⟨w.heap.size + 1, 1, none⟩ = some (.int .u32 (rg R 28))) (by kernel_rfl) (HX.out.b1.cell 1) (fun hHeld => ?_)
    clear hHeld
    generalize w0.drew = u1 at HX HL ⊢
    have K2 := hidW (HX.out.b1.cell 1)
    refine wpAnyH_take (i := 0) (oi := { dst := some 30, op := Op.move (Operand.tmp 1), type := 95, pos := _, after := #[], guard := none }) (v := ?_) rfl (by kernel_rfl) (by kernel_rfl) (by kernel_rfl) (fun _ _ _ h => h) (Or.inl ⟨by rfl, ?_⟩) (by assumption) ?_
    rotate_left
    · (intro w hSw; (try dsimp only at hSw); go_simp; try with_reducible rfl)
    simp only [Act.put, List.setIfInBounds_toArray, List.set_cons_zero, List.set_cons_succ]
    refine wpAnyH_take (i := 1) (oi := { dst := some 31, op := Op.fieldAddr 50 (Operand.tmp 5) 1, type := 0, pos := _, after := #[], guard := none }) (v := ?_) rfl (by kernel_rfl) (by kernel_rfl) (by kernel_rfl) (fun _ _ _ h => h) (Or.inl ⟨by rfl, ?_⟩) (by assumption) ?_
    rotate_left
    · (intro w hSw; (try dsimp only at hSw); go_simp; try with_reducible rfl)
    simp only [Act.put, List.setIfInBounds_toArray, List.set_cons_zero, List.set_cons_succ]
    refine wpAnyH_take (i := 2) (oi := { dst := some 32, op := Op.load 22 (Operand.tmp 31), type := 22, pos := _, after := #[{ on := 1, ground := Ground.data }], guard := none }) (v := ?_) rfl (by kernel_rfl) (by kernel_rfl) (by kernel_rfl) (fun _ _ _ h => h) (Or.inl ⟨by rfl, ?_⟩) (by assumption) ?_
    rotate_left
    · (intro w hSw; (try dsimp only at hSw); go_simp; try with_reducible rfl)
    simp only [Act.put, List.setIfInBounds_toArray, List.set_cons_zero, List.set_cons_succ]
    refine wpAnyH_take (i := 3) (oi := { dst := some 33, op := Op.move (Operand.tmp 0), type := 27, pos := _, after := #[], guard := none }) (v := ?_) rfl (by kernel_rfl) (by kernel_rfl) (by kernel_rfl) (fun _ _ _ h => h) (Or.inl ⟨by rfl, ?_⟩) (by assumption) ?_
    rotate_left
    · (intro w hSw; (try dsimp only at hSw); go_simp; try with_reducible rfl)
    simp only [Act.put, List.setIfInBounds_toArray, List.set_cons_zero, List.set_cons_succ]
    refine wpAnyH_take (i := 4) (oi := { dst := some 34, op := Op.nilCheck (Operand.tmp 33), type := 0, pos := _, after := #[{ on := 3, ground := Ground.data }], guard := none }) (v := ?_) rfl (by kernel_rfl) (by kernel_rfl) (by kernel_rfl) (fun _ _ _ h => h) (Or.inl ⟨by rfl, ?_⟩) (by assumption) ?_
    rotate_left
    · (intro w hSw; (try dsimp only at hSw); go_simp; try with_reducible rfl)
    simp only [Act.put, List.setIfInBounds_toArray, List.set_cons_zero, List.set_cons_succ]
    refine wpAnyH_take (i := 5) (oi := { dst := some 35, op := Op.fieldAddr 86 (Operand.tmp 34) 0, type := 0, pos := _, after := #[{ on := 4, ground := Ground.data }], guard := none }) (v := ?_) rfl (by kernel_rfl) (by kernel_rfl) (by kernel_rfl) (fun _ _ _ h => h) (Or.inl ⟨by rfl, ?_⟩) (by assumption) ?_
    rotate_left
    · (intro w hSw; (try dsimp only at hSw); go_simp; try with_reducible rfl)
    simp only [Act.put, List.setIfInBounds_toArray, List.set_cons_zero, List.set_cons_succ]
    refine wpAnyH_take (i := 9) (oi := { dst := some 39, op := Op.makeFunc (Fn.method "Access") #[Operand.tmp 30] #[], type := 120, pos := _, after := #[{ on := 0, ground := Ground.data }], guard := none }) (v := ?_) rfl (by kernel_rfl) (by kernel_rfl) (by kernel_rfl) (fun _ _ _ h => h) (Or.inl ⟨by rfl, ?_⟩) (by assumption) ?_
    rotate_left
    · (intro w hSw; (try dsimp only at hSw); go_simp; try with_reducible rfl)
    simp only [Act.put, List.setIfInBounds_toArray, List.set_cons_zero, List.set_cons_succ]
    refine wpAnyH_take (i := 10) (oi := { dst := some 40, op := Op.nilCheck (Operand.tmp 39), type := 120, pos := _, after := #[{ on := 9, ground := Ground.data }], guard := none }) (v := ?_) rfl (by kernel_rfl) (by kernel_rfl) (by kernel_rfl) (fun _ _ _ h => h) (Or.inl ⟨by rfl, ?_⟩) (by assumption) ?_
    rotate_left
    · (intro w hSw; (try dsimp only at hSw); go_simp; try with_reducible rfl)
    simp only [Act.put, List.setIfInBounds_toArray, List.set_cons_zero, List.set_cons_succ]
    refine wpAnyH_take (i := 11) (oi := { dst := some 41, op := Op.move (Operand.tmp 30), type := 95, pos := _, after := #[{ on := 0, ground := Ground.data }, { on := 9, ground := Ground.data }, { on := 10, ground := Ground.data }], guard := none }) (v := ?_) rfl (by kernel_rfl) (by kernel_rfl) (by kernel_rfl) (fun _ _ _ h => h) (Or.inl ⟨by rfl, ?_⟩) (by assumption) ?_
    rotate_left
    · (intro w hSw; (try dsimp only at hSw); go_simp; try with_reducible rfl)
    simp only [Act.put, List.setIfInBounds_toArray, List.set_cons_zero, List.set_cons_succ]
    refine wpAnyH_ready (rs := [6, 13]) (by kernel_rfl) (by simp) ?_
    refine (AllReadyH.cons (o := { dst := some 36, op := Op.call { callee := Callee.value (Operand.func 50), args := #[Operand.tmp 35], argTypes := #[84] }, type := 4, pos := _, after := #[{ on := 5, ground := Ground.data }], guard := none }) rfl (fun K hK => ?_) (AllReadyH.cons (o := { dst := some 6, op := Op.alloc 119, type := 0, pos := _, after := #[], guard := none }) rfl (fun K hK => ?_) AllReadyH.nil))
    · go_simp
      go_at_call 50; refine (HM.out _ HX.out.cpu).mono ?_; rintro e wu ⟨rfl, hwe⟩; have hwe := hwe.symm; subst hwe
      refine hK.out _ _ ?_ (fun hHeld => ?_)
      · exact K2.out
      clear hK K
      try simp only [Act.put, List.setIfInBounds_toArray, List.set_cons_zero, List.set_cons_succ]
      refine wpAnyH_take (i := 7) (oi := { dst := some 37, op := Op.unOp UnOp.not 4 (Operand.tmp 36), type := 4, pos := _, after := #[{ on := 6, ground := Ground.data }], guard := none }) (v := ?_) rfl (by kernel_rfl) (by kernel_rfl) (by kernel_rfl) (fun _ _ _ h => h) (Or.inl ⟨by rfl, ?_⟩) (by assumption) ?_
      rotate_left
      · (intro w hSw; (try dsimp only at hSw); go_simp; try with_reducible rfl)
      simp only [Act.put, List.setIfInBounds_toArray, List.set_cons_zero, List.set_cons_succ]
      refine wpAnyH_take (i := 8) (oi := { dst := some 38, op := Op.build 65 #[(0, Operand.const (Value.int IntKind.i64 1)), (1, Operand.tmp 32), (2, Operand.const (Value.int IntKind.i64 4)), (4, Operand.tmp 37)], type := 65, pos := _, after := #[{ on := 2, ground := Ground.data }, { on := 7, ground := Ground.data }], guard := none }) (v := ?_) rfl (by kernel_rfl) (by kernel_rfl) (by kernel_rfl) (fun _ _ _ h => h) (Or.inl ⟨by rfl, ?_⟩) (by assumption) ?_
      rotate_left
      · (intro w hSw; (try dsimp only at hSw); go_simp; try with_reducible rfl)
      simp only [Act.put, List.setIfInBounds_toArray, List.set_cons_zero, List.set_cons_succ]
      refine wpAnyH_ready (rs := [12, 13]) (by kernel_rfl) (by simp) ?_
      refine (AllReadyH.cons (o := { dst := some 42, op := Op.call { callee := Callee.invoke (Operand.tmp 41) "Access", args := #[Operand.tmp 38], argTypes := #[65] }, type := 119, pos := _, after := #[{ on := 11, ground := Ground.data }, { on := 8, ground := Ground.data }, { on := 6, ground := Ground.chain }], guard := none }) rfl (fun K hK => ?_) (AllReadyH.cons (o := { dst := some 6, op := Op.alloc 119, type := 0, pos := _, after := #[], guard := none }) rfl (fun K hK => ?_) AllReadyH.nil))
      · go_simp
        go_at_call 147; refine (HA.out _ HX.out HL.out).mono ?_; rintro e u2 ⟨rfl, av', hl2, ht, ho2, ho3, n0, n1, hx2⟩; have HL2 := hidW hl2; have HO3 := hidW ho3; have HN0 := hidW n0; have HN1 := hidW n1; have HX := hidW hx2; have K2 := hidW (HX.out.b1.cell 1); (try have HN : Hid (¬ LO lb pv hv av' q6) := hidW (fun e => (ho2 _ e).elim (fun h5 => by have := HLw.out _ h5; have := HZ.out; omega) (fun h5 => by have := HQ.out.lt; omega))); (try have HQ := hidW (HQ.out.turn ht (fun e => by have := HLw.out _ e; have := HZ.out; omega))); clear hl2 ht ho2 ho3 n0 n1 hx2
        refine hK.out _ _ ?_ (fun hHeld => ?_)
        · exact K2.out
        clear hK K
        try simp only [Act.put, List.setIfInBounds_toArray, List.set_cons_zero, List.set_cons_succ]
        refine wpAnyH_ready (rs := [13]) (by kernel_rfl) (by simp) ?_
        refine (AllReadyH.cons (o := { dst := some 6, op := Op.alloc 119, type := 0, pos := _, after := #[], guard := none }) rfl (fun K hK => ?_) AllReadyH.nil)
        go_simp
        (first | (generalize hq : u2.alloc _ = ub; have e3 : u2.alloc (.cells anZ.toArray 119) = ub := hq; have HQ := hidW (Bl.new u2 119 anZ); have hbn := below_new u2 (.cells anZ.toArray 119); have HZ : Hid (w.heap.size + 1 < u2.heap.size) := HX.out.b1.lt; have HN : Hid (¬ LO lb pv hv av' u2.heap.size) := hidW (LO_lt (v := u2) HL2.out (Nat.le_refl _)); have HX := hidW (HX.out.step hbn); have HL2 := hidW (HL2.out.below hbn); rw [e3] at HQ HX HL2; clear hbn e3 hq; generalize u2.heap.size = q6 at HQ HZ HN ⊢; have K2 := hidW (HX.out.b1.cell 1)) | (generalize hq : u1.alloc _ = ua; have e3 : u1.alloc (.cells anZ.toArray 119) = ua := hq; have HQ := hidW (Bl.new u1 119 anZ); have hbn := below_new u1 (.cells anZ.toArray 119); have HZ : Hid (w.heap.size + 1 < u1.heap.size) := HX.out.b1.lt; have HX := hidW (HX.out.step hbn); have HL := hidW (HL.out.below hbn); rw [e3] at HQ HX HL; clear hbn e3 hq; generalize u1.heap.size = q6 at HQ HZ ⊢; have K2 := hidW (HX.out.b1.cell 1))); refine hK.out _ _ ?_ (fun hHeld => ?_); (focus exact K2.out)
        clear hK K
        try simp only [Act.put, List.setIfInBounds_toArray, List.set_cons_zero, List.set_cons_succ]
        refine wpAnyH_ready (rs := [14]) (by kernel_rfl) (by simp) ?_
        refine (AllReadyH.cons (o := { dst := none, op := Op.store 119 (Operand.tmp 6) (Operand.tmp 42), type := 0, pos := _, after := #[{ on := 13, ground := Ground.data }, { on := 12, ground := Ground.data }, { on := 12, ground := Ground.chain }, { on := 0, ground := Ground.phase }, { on := 1, ground := Ground.phase }, { on := 2, ground := Ground.phase }, { on := 3, ground := Ground.phase }, { on := 4, ground := Ground.phase }, { on := 5, ground := Ground.phase }, { on := 6, ground := Ground.phase }, { on := 7, ground := Ground.phase }, { on := 8, ground := Ground.phase }, { on := 9, ground := Ground.phase }, { on := 10, ground := Ground.phase }, { on := 11, ground := Ground.phase }, { on := 12, ground := Ground.phase }, { on := 13, ground := Ground.phase }], guard := none }) rfl (fun K hK => ?_) AllReadyH.nil)
        (rw [if_pos (by kernel_rfl)]; refine wp_store_mid _ _ _ rfl _ 0 _ rfl rfl (HQ.out.there 4 rfl) ans_info (by kernel_rfl) ?_; have HF := hidW (HX.out.fill h4w HL2.out HO3.out HN0.out HN1.out HN.out HQ.out (by have := HZ.out; omega) (by have := HZ.out; omega) (by have := HZ.out; omega) V); generalize World.setCells _ _ _ _ = u4 at HF ⊢; refine hK.out _ _ (HF.out.1.b1.cell 1) (fun hHeld => ?_))
        clear hK K
        try simp only [Act.put, List.setIfInBounds_toArray, List.set_cons_zero, List.set_cons_succ]
        refine wpAnyH_done (by kernel_rfl) ?_ _
        (go_wp2_with fail); go_meet; exact ⟨_, rfl, HF.out.1, HF.out.2⟩
      · go_simp
        (first | (generalize hq : u2.alloc _ = ub; have e3 : u2.alloc (.cells anZ.toArray 119) = ub := hq; have HQ := hidW (Bl.new u2 119 anZ); have hbn := below_new u2 (.cells anZ.toArray 119); have HZ : Hid (w.heap.size + 1 < u2.heap.size) := HX.out.b1.lt; have HN : Hid (¬ LO lb pv hv av' u2.heap.size) := hidW (LO_lt (v := u2) HL2.out (Nat.le_refl _)); have HX := hidW (HX.out.step hbn); have HL2 := hidW (HL2.out.below hbn); rw [e3] at HQ HX HL2; clear hbn e3 hq; generalize u2.heap.size = q6 at HQ HZ HN ⊢; have K2 := hidW (HX.out.b1.cell 1)) | (generalize hq : u1.alloc _ = ua; have e3 : u1.alloc (.cells anZ.toArray 119) = ua := hq; have HQ := hidW (Bl.new u1 119 anZ); have hbn := below_new u1 (.cells anZ.toArray 119); have HZ : Hid (w.heap.size + 1 < u1.heap.size) := HX.out.b1.lt; have HX := hidW (HX.out.step hbn); have HL := hidW (HL.out.below hbn); rw [e3] at HQ HX HL; clear hbn e3 hq; generalize u1.heap.size = q6 at HQ HZ ⊢; have K2 := hidW (HX.out.b1.cell 1))); refine hK.out _ _ ?_ (fun hHeld => ?_); (focus exact K2.out)
        clear hK K
        try simp only [Act.put, List.setIfInBounds_toArray, List.set_cons_zero, List.set_cons_succ]
        refine wpAnyH_ready (rs := [12]) (by kernel_rfl) (by simp) ?_
        refine (AllReadyH.cons (o := { dst := some 42, op := Op.call { callee := Callee.invoke (Operand.tmp 41) "Access", args := #[Operand.tmp 38], argTypes := #[65] }, type := 119, pos := _, after := #[{ on := 11, ground := Ground.data }, { on := 8, ground := Ground.data }, { on := 6, ground := Ground.chain }], guard := none }) rfl (fun K hK => ?_) AllReadyH.nil)
        go_simp
        go_at_call 147; refine (HA.out _ HX.out HL.out).mono ?_; rintro e u2 ⟨rfl, av', hl2, ht, ho2, ho3, n0, n1, hx2⟩; have HL2 := hidW hl2; have HO3 := hidW ho3; have HN0 := hidW n0; have HN1 := hidW n1; have HX := hidW hx2; have K2 := hidW (HX.out.b1.cell 1); (try have HN : Hid (¬ LO lb pv hv av' q6) := hidW (fun e => (ho2 _ e).elim (fun h5 => by have := HLw.out _ h5; have := HZ.out; omega) (fun h5 => by have := HQ.out.lt; omega))); (try have HQ := hidW (HQ.out.turn ht (fun e => by have := HLw.out _ e; have := HZ.out; omega))); clear hl2 ht ho2 ho3 n0 n1 hx2
        refine hK.out _ _ ?_ (fun hHeld => ?_)
        · exact K2.out
        clear hK K
        try simp only [Act.put, List.setIfInBounds_toArray, List.set_cons_zero, List.set_cons_succ]
        refine wpAnyH_ready (rs := [14]) (by kernel_rfl) (by simp) ?_
        refine (AllReadyH.cons (o := { dst := none, op := Op.store 119 (Operand.tmp 6) (Operand.tmp 42), type := 0, pos := _, after := #[{ on := 13, ground := Ground.data }, { on := 12, ground := Ground.data }, { on := 12, ground := Ground.chain }, { on := 0, ground := Ground.phase }, { on := 1, ground := Ground.phase }, { on := 2, ground := Ground.phase }, { on := 3, ground := Ground.phase }, { on := 4, ground := Ground.phase }, { on := 5, ground := Ground.phase }, { on := 6, ground := Ground.phase }, { on := 7, ground := Ground.phase }, { on := 8, ground := Ground.phase }, { on := 9, ground := Ground.phase }, { on := 10, ground := Ground.phase }, { on := 11, ground := Ground.phase }, { on := 12, ground := Ground.phase }, { on := 13, ground := Ground.phase }], guard := none }) rfl (fun K hK => ?_) AllReadyH.nil)
        (rw [if_pos (by kernel_rfl)]; refine wp_store_mid _ _ _ rfl _ 0 _ rfl rfl (HQ.out.there 4 rfl) ans_info (by kernel_rfl) ?_; have HF := hidW (HX.out.fill h4w HL2.out HO3.out HN0.out HN1.out HN.out HQ.out (by have := HZ.out; omega) (by have := HZ.out; omega) (by have := HZ.out; omega) V); generalize World.setCells _ _ _ _ = u4 at HF ⊢; refine hK.out _ _ (HF.out.1.b1.cell 1) (fun hHeld => ?_))
        clear hK K
        try simp only [Act.put, List.setIfInBounds_toArray, List.set_cons_zero, List.set_cons_succ]
        refine wpAnyH_done (by kernel_rfl) ?_ _
        (go_wp2_with fail); go_meet; exact ⟨_, rfl, HF.out.1, HF.out.2⟩
    · go_simp
      (first | (generalize hq : u2.alloc _ = ub; have e3 : u2.alloc (.cells anZ.toArray 119) = ub := hq; have HQ := hidW (Bl.new u2 119 anZ); have hbn := below_new u2 (.cells anZ.toArray 119); have HZ : Hid (w.heap.size + 1 < u2.heap.size) := HX.out.b1.lt; have HN : Hid (¬ LO lb pv hv av' u2.heap.size) := hidW (LO_lt (v := u2) HL2.out (Nat.le_refl _)); have HX := hidW (HX.out.step hbn); have HL2 := hidW (HL2.out.below hbn); rw [e3] at HQ HX HL2; clear hbn e3 hq; generalize u2.heap.size = q6 at HQ HZ HN ⊢; have K2 := hidW (HX.out.b1.cell 1)) | (generalize hq : u1.alloc _ = ua; have e3 : u1.alloc (.cells anZ.toArray 119) = ua := hq; have HQ := hidW (Bl.new u1 119 anZ); have hbn := below_new u1 (.cells anZ.toArray 119); have HZ : Hid (w.heap.size + 1 < u1.heap.size) := HX.out.b1.lt; have HX := hidW (HX.out.step hbn); have HL := hidW (HL.out.below hbn); rw [e3] at HQ HX HL; clear hbn e3 hq; generalize u1.heap.size = q6 at HQ HZ ⊢; have K2 := hidW (HX.out.b1.cell 1))); refine hK.out _ _ ?_ (fun hHeld => ?_); (focus exact K2.out)
      clear hK K
      try simp only [Act.put, List.setIfInBounds_toArray, List.set_cons_zero, List.set_cons_succ]
      refine wpAnyH_ready (rs := [6]) (by kernel_rfl) (by simp) ?_
      refine (AllReadyH.cons (o := { dst := some 36, op := Op.call { callee := Callee.value (Operand.func 50), args := #[Operand.tmp 35], argTypes := #[84] }, type := 4, pos := _, after := #[{ on := 5, ground := Ground.data }], guard := none }) rfl (fun K hK => ?_) AllReadyH.nil)
      go_simp
      go_at_call 50; refine (HM.out _ HX.out.cpu).mono ?_; rintro e wu ⟨rfl, hwe⟩; have hwe := hwe.symm; subst hwe
      refine hK.out _ _ ?_ (fun hHeld => ?_)
      · exact K2.out
      clear hK K
      try simp only [Act.put, List.setIfInBounds_toArray, List.set_cons_zero, List.set_cons_succ]
      refine wpAnyH_take (i := 7) (oi := { dst := some 37, op := Op.unOp UnOp.not 4 (Operand.tmp 36), type := 4, pos := _, after := #[{ on := 6, ground := Ground.data }], guard := none }) (v := ?_) rfl (by kernel_rfl) (by kernel_rfl) (by kernel_rfl) (fun _ _ _ h => h) (Or.inl ⟨by rfl, ?_⟩) (by assumption) ?_
      rotate_left
      · (intro w hSw; (try dsimp only at hSw); go_simp; try with_reducible rfl)
      simp only [Act.put, List.setIfInBounds_toArray, List.set_cons_zero, List.set_cons_succ]
      refine wpAnyH_take (i := 8) (oi := { dst := some 38, op := Op.build 65 #[(0, Operand.const (Value.int IntKind.i64 1)), (1, Operand.tmp 32), (2, Operand.const (Value.int IntKind.i64 4)), (4, Operand.tmp 37)], type := 65, pos := _, after := #[{ on := 2, ground := Ground.data }, { on := 7, ground := Ground.data }], guard := none }) (v := ?_) rfl (by kernel_rfl) (by kernel_rfl) (by kernel_rfl) (fun _ _ _ h => h) (Or.inl ⟨by rfl, ?_⟩) (by assumption) ?_
      rotate_left
      · (intro w hSw; (try dsimp only at hSw); go_simp; try with_reducible rfl)
      simp only [Act.put, List.setIfInBounds_toArray, List.set_cons_zero, List.set_cons_succ]
      refine wpAnyH_ready (rs := [12]) (by kernel_rfl) (by simp) ?_
      refine (AllReadyH.cons (o := { dst := some 42, op := Op.call { callee := Callee.invoke (Operand.tmp 41) "Access", args := #[Operand.tmp 38], argTypes := #[65] }, type := 119, pos := _, after := #[{ on := 11, ground := Ground.data }, { on := 8, ground := Ground.data }, { on := 6, ground := Ground.chain }], guard := none }) rfl (fun K hK => ?_) AllReadyH.nil)
      go_simp
      go_at_call 147; refine (HA.out _ HX.out HL.out).mono ?_; rintro e u2 ⟨rfl, av', hl2, ht, ho2, ho3, n0, n1, hx2⟩; have HL2 := hidW hl2; have HO3 := hidW ho3; have HN0 := hidW n0; have HN1 := hidW n1; have HX := hidW hx2; have K2 := hidW (HX.out.b1.cell 1); (try have HN : Hid (¬ LO lb pv hv av' q6) := hidW (fun e => (ho2 _ e).elim (fun h5 => by have := HLw.out _ h5; have := HZ.out; omega) (fun h5 => by have := HQ.out.lt; omega))); (try have HQ := hidW (HQ.out.turn ht (fun e => by have := HLw.out _ e; have := HZ.out; omega))); clear hl2 ht ho2 ho3 n0 n1 hx2
      refine hK.out _ _ ?_ (fun hHeld => ?_)
      · exact K2.out
      clear hK K
      try simp only [Act.put, List.setIfInBounds_toArray, List.set_cons_zero, List.set_cons_succ]
      refine wpAnyH_ready (rs := [14]) (by kernel_rfl) (by simp) ?_
      refine (AllReadyH.cons (o := { dst := none, op := Op.store 119 (Operand.tmp 6) (Operand.tmp 42), type := 0, pos := _, after := #[{ on := 13, ground := Ground.data }, { on := 12, ground := Ground.data }, { on := 12, ground := Ground.chain }, { on := 0, ground := Ground.phase }, { on := 1, ground := Ground.phase }, { on := 2, ground := Ground.phase }, { on := 3, ground := Ground.phase }, { on := 4, ground := Ground.phase }, { on := 5, ground := Ground.phase }, { on := 6, ground := Ground.phase }, { on := 7, ground := Ground.phase }, { on := 8, ground := Ground.phase }, { on := 9, ground := Ground.phase }, { on := 10, ground := Ground.phase }, { on := 11, ground := Ground.phase }, { on := 12, ground := Ground.phase }, { on := 13, ground := Ground.phase }], guard := none }) rfl (fun K hK => ?_) AllReadyH.nil)
      (rw [if_pos (by kernel_rfl)]; refine wp_store_mid _ _ _ rfl _ 0 _ rfl rfl (HQ.out.there 4 rfl) ans_info (by kernel_rfl) ?_; have HF := hidW (HX.out.fill h4w HL2.out HO3.out HN0.out HN1.out HN.out HQ.out (by have := HZ.out; omega) (by have := HZ.out; omega) (by have := HZ.out; omega) V); generalize World.setCells _ _ _ _ = u4 at HF ⊢; refine hK.out _ _ (HF.out.1.b1.cell 1) (fun hHeld => ?_))
      clear hK K
      try simp only [Act.put, List.setIfInBounds_toArray, List.set_cons_zero, List.set_cons_succ]
      refine wpAnyH_done (by kernel_rfl) ?_ _
      (go_wp2_with fail); go_meet; exact ⟨_, rfl, HF.out.1, HF.out.2⟩
  case rest =>
    obtain ⟨q6, rfl, hX, hans⟩ := hcut
    have HX := hidW hX
    have HAns := hidW hans
    obtain ⟨a0, a1, a2, a3⟩ := hans.four.1
    have d2 := hX.b1.cell 2
    have g2 := hX.b1.frozen 2
    have d2 : wc.cell? ⟨w.heap.size + 1, 2, none⟩ = some (.int .u32 0) := d2
    clear hX hans HA HM HL
    cases hdec : Is.decP V.toNat with
    | none =>
      obtain ⟨ht2, hl2, hR2⟩ := hund hdec
      subst ht2 hl2
      obtain rfl : R = R' := hR2.symm
      rw [hdec] at HDc
      have HDc : Hid (∀ v, Is.TP v → Calls Tryz.prog 12 #[.int .u32 V] v fun e w' => e = .returned (.tuple #[.agg (Is.insA Is.insZ), .bool false]) ∧ Below v.heap.size v w') := HDc
      have HE : Hid (∀ (v : World) (A : Array Value) w2, A.size = 20 → (v.alloc (.cells A 35)).setCells v.heap.size 0 (Is.insL Is.insZ) = w2 → Below v.heap.size v w2 ∧ Bl w2 v.heap.size 35 (Is.insL Is.insZ)) := fun v A w2 hA e => e ▸ fill_new v 35 A (Is.insL Is.insZ) (by rw [hA]; rfl)
      go_wp2_with (first | (go_at_call 12; have HX := hidW (HX.out.put h4w 2 (.int .u32 V) ⟨0, rg R 28, V, 0, 0, 0, 0, false⟩ rfl); refine (HDc.out _ HX.out.te.tp).mono ?_; rintro e w3 ⟨rfl, hb⟩; have HX := hidW (HX.out.step hb); clear hb a0 a1 a2 a3 d2 g2) | (guard_target =~ wpList _ _ _ (Oper.mk none (Op.store 35 _ _) _ _ _ _ :: _) _ _; refine wpList_store_mid rfl _ _ _ rfl w3.heap.size 0 (Is.insL Is.insZ).toArray rfl rfl (there_new _ _ _ _ rfl) ins_info (ins_one _) ?_; generalize hW : World.setCells _ _ _ _ = w5; obtain ⟨hb5, hb7⟩ := HE.out _ _ _ rfl hW; have HX := hidW (HX.out.step hb5); have HI7 := hidW hb7; have e0 : w5.cell? ⟨w.heap.size + 1, 0, none⟩ = some (.int .i64 0) := HX.out.b1.cell 0; have g0 := HX.out.b1.frozen 0; generalize w3.heap.size = q7 at HI7 ⊢; clear hb5 hb7 hW) | (guard_target =~ wpList _ _ _ (Oper.mk (some 67) _ _ _ _ _ :: _) _ _; have HX := hidW (HX.out.put h4w 0 (.int .i64 1) ⟨1, rg R 28, V, 0, 0, 0, 0, false⟩ rfl); refine wpList_load_mid rfl _ _ rfl (w.heap.size + 1) 0 rfl (tkL ⟨1, rg R 28, V, 0, 0, 0, 0, false⟩) _ HX.out.b1.range Tryz.underlying50 rfl tk_info ?_) | (guard_target =~ wpList _ _ _ (Oper.mk none (Op.store 50 _ _) _ _ _ _ :: _) _ _; refine wpList_store_mid rfl _ _ _ rfl w.heap.size 0 (tkL ⟨1, rg R 28, V, 0, 0, 0, 0, false⟩).toArray rfl rfl (HX.out.b0.there 8 rfl) tk_info (tk_one _) ?_; have HZ := hidW (HX.out.ans ⟨1, rg R 28, V, 0, 0, 0, 0, false⟩); generalize World.setCells _ _ _ _ = w9 at HZ ⊢))
      have hl := run_loadVar_mid _ w.heap.size 0 50 (tkL ⟨1, rg R 28, V, 0, 0, 0, 0, false⟩) _ HZ.out.2.range Tryz.underlying50 rfl tk_info
      exact bodyPost_ret (v := .agg (tkL ⟨1, rg R 28, V, 0, 0, 0, 0, false⟩).toArray) (by simp [results, Tryz.results34, asAddr, hl, Act.put]) rfl ⟨rfl, HZ.out.1⟩
    | some i =>
      rw [hdec] at HDc
      have HDc : Hid (∀ v, Is.TP v → Calls Tryz.prog 12 #[.int .u32 V] v fun e w' => e = .returned (.tuple #[.agg (Is.insL i).toArray, .bool true]) ∧ Below v.heap.size v w') := HDc
      have HE : Hid (∀ (v : World) (A : Array Value) w2, A.size = 20 → (v.alloc (.cells A 35)).setCells v.heap.size 0 (Is.insL i) = w2 → Below v.heap.size v w2 ∧ Bl w2 v.heap.size 35 (Is.insL i)) := fun v A w2 hA e => e ▸ fill_new v 35 A (Is.insL i) (by rw [hA]; rfl)
      go_wp2_with (first | (go_at_call 12; have HX := hidW (HX.out.put h4w 2 (.int .u32 V) ⟨0, rg R 28, V, 0, 0, 0, 0, false⟩ rfl); refine (HDc.out _ HX.out.te.tp).mono ?_; rintro e w3 ⟨rfl, hb⟩; have HX := hidW (HX.out.step hb); obtain ⟨av', k1, k2, k3, k4⟩ := HX.out.lq; have HL := hidW k1; have HO3 := hidW k2; have HN0 := hidW k3; have HN1 := hidW k4; clear k1 k2 k3 k4 hb a0 a1 a2 a3 d2 g2) | (guard_target =~ wpList _ _ _ (Oper.mk none (Op.store 35 _ _) _ _ _ _ :: _) _ _; refine wpList_store_mid rfl _ _ _ rfl w3.heap.size 0 (Is.insL i).toArray rfl rfl (there_new _ _ _ _ rfl) ins_info (ins_one _) ?_; generalize hW : World.setCells _ _ _ _ = w5; obtain ⟨hb5, hb7⟩ := HE.out _ _ _ rfl hW; have HZ7 : Hid (w.heap.size + 1 < w3.heap.size) := HX.out.b1.lt; have HN7 : Hid (¬ LO lb pv hv av' w3.heap.size) := hidW (LO_lt (v := w3) HL.out (Nat.le_refl _)); have HL := hidW (HL.out.below hb5); have HX := hidW (HX.out.step hb5); have HI7 := hidW hb7; have e0 : w5.cell? ⟨w.heap.size + 1, 0, none⟩ = some (.int .i64 0) := HX.out.b1.cell 0; have g0 := HX.out.b1.frozen 0; generalize w3.heap.size = q7 at HI7 HN7 HZ7 ⊢; clear hb5 hb7 hW))
      have HX := hidW HX.out.drew
      have HL := hidW HL.out.drew
      have HI7 := hidW HI7.out.drew
      have hR30 := HX.out.cpu.ok.len
      have HRi : Hid ((Tryz.prog.info? 84).map (·.size) = some (RL R).length) := by rw [RL_len HX.out.cpu.ok]; exact regs_info
      refine wp_region_held_drew (S := fun v => v.cell? ⟨cb, 30, none⟩ = some (.bool false) ∧ v.rangeAt q7 0 (Is.insL i) ∧ v.rangeAt (w.heap.size + 1) 0 (tkL ⟨0, rg R 28, V, 0, 0, 0, 0, false⟩)) (by kernel_rfl) ⟨HX.out.cpu.ext 0 30 rfl, HI7.out.range, HX.out.b1.range⟩ (fun hHeld => ?_)
      clear hHeld
      generalize w5.drew = u1 at HX HI7 HL ⊢
      have K2 : Hid (u1.cell? ⟨cb, 30, none⟩ = some (.bool false) ∧ u1.rangeAt q7 0 (Is.insL i) ∧ u1.rangeAt (w.heap.size + 1) 0 (tkL ⟨0, rg R 28, V, 0, 0, 0, 0, false⟩)) := hidW ⟨HX.out.cpu.ext 0 30 rfl, HI7.out.range, HX.out.b1.range⟩
      refine wpAnyH_take (i := 0) (oi := { dst := some 68, op := Op.move (Operand.tmp 0), type := 27, pos := _, after := #[], guard := none }) (v := ?_) rfl (by kernel_rfl) (by kernel_rfl) (by kernel_rfl) (fun _ _ _ h => h) (Or.inl ⟨by rfl, ?_⟩) (by assumption) ?_
      rotate_left
      · (intro w hSw; (try dsimp only at hSw); go_simp; try with_reducible rfl)
      simp only [Act.put, List.setIfInBounds_toArray, List.set_cons_zero, List.set_cons_succ]
      refine wpAnyH_take (i := 1) (oi := { dst := some 69, op := Op.move (Operand.tmp 0), type := 27, pos := _, after := #[], guard := none }) (v := ?_) rfl (by kernel_rfl) (by kernel_rfl) (by kernel_rfl) (fun _ _ _ h => h) (Or.inl ⟨by rfl, ?_⟩) (by assumption) ?_
      rotate_left
      · (intro w hSw; (try dsimp only at hSw); go_simp; try with_reducible rfl)
      simp only [Act.put, List.setIfInBounds_toArray, List.set_cons_zero, List.set_cons_succ]
      refine wpAnyH_take (i := 2) (oi := { dst := some 70, op := Op.nilCheck (Operand.tmp 69), type := 0, pos := _, after := #[{ on := 1, ground := Ground.data }], guard := none }) (v := ?_) rfl (by kernel_rfl) (by kernel_rfl) (by kernel_rfl) (fun _ _ _ h => h) (Or.inl ⟨by rfl, ?_⟩) (by assumption) ?_
      rotate_left
      · (intro w hSw; (try dsimp only at hSw); go_simp; try with_reducible rfl)
      simp only [Act.put, List.setIfInBounds_toArray, List.set_cons_zero, List.set_cons_succ]
      refine wpAnyH_take (i := 3) (oi := { dst := some 71, op := Op.fieldAddr 86 (Operand.tmp 70) 0, type := 0, pos := _, after := #[{ on := 2, ground := Ground.data }], guard := none }) (v := ?_) rfl (by kernel_rfl) (by kernel_rfl) (by kernel_rfl) (fun _ _ _ h => h) (Or.inl ⟨by rfl, ?_⟩) (by assumption) ?_
      rotate_left
      · (intro w hSw; (try dsimp only at hSw); go_simp; try with_reducible rfl)
      simp only [Act.put, List.setIfInBounds_toArray, List.set_cons_zero, List.set_cons_succ]
      refine wpAnyH_take (i := 5) (oi := { dst := some 73, op := Op.move (Operand.tmp 0), type := 27, pos := _, after := #[], guard := none }) (v := ?_) rfl (by kernel_rfl) (by kernel_rfl) (by kernel_rfl) (fun _ _ _ h => h) (Or.inl ⟨by rfl, ?_⟩) (by assumption) ?_
      rotate_left
      · (intro w hSw; (try dsimp only at hSw); go_simp; try with_reducible rfl)
      simp only [Act.put, List.setIfInBounds_toArray, List.set_cons_zero, List.set_cons_succ]
      refine wpAnyH_take (i := 6) (oi := { dst := some 74, op := Op.nilCheck (Operand.tmp 73), type := 0, pos := _, after := #[{ on := 5, ground := Ground.data }], guard := none }) (v := ?_) rfl (by kernel_rfl) (by kernel_rfl) (by kernel_rfl) (fun _ _ _ h => h) (Or.inl ⟨by rfl, ?_⟩) (by assumption) ?_
      rotate_left
      · (intro w hSw; (try dsimp only at hSw); go_simp; try with_reducible rfl)
      simp only [Act.put, List.setIfInBounds_toArray, List.set_cons_zero, List.set_cons_succ]
      refine wpAnyH_take (i := 7) (oi := { dst := some 75, op := Op.fieldAddr 86 (Operand.tmp 74) 1, type := 0, pos := _, after := #[{ on := 6, ground := Ground.data }], guard := none }) (v := ?_) rfl (by kernel_rfl) (by kernel_rfl) (by kernel_rfl) (fun _ _ _ h => h) (Or.inl ⟨by rfl, ?_⟩) (by assumption) ?_
      rotate_left
      · (intro w hSw; (try dsimp only at hSw); go_simp; try with_reducible rfl)
      simp only [Act.put, List.setIfInBounds_toArray, List.set_cons_zero, List.set_cons_succ]
      refine wpAnyH_take (i := 8) (oi := { dst := some 76, op := Op.load 4 (Operand.tmp 75), type := 4, pos := _, after := #[{ on := 7, ground := Ground.data }], guard := none }) (v := ?_) rfl (by kernel_rfl) (by kernel_rfl) (by kernel_rfl) (fun _ _ _ h => h) (Or.inl ⟨by rfl, ?_⟩) (by assumption) ?_
      rotate_left
      · (intro w hSw; (try dsimp only at hSw); go_simp; try with_reducible rfl)
      simp only [Act.put, List.setIfInBounds_toArray, List.set_cons_zero, List.set_cons_succ]
      refine wpAnyH_take (i := 9) (oi := { dst := some 77, op := Op.move (Operand.tmp 1), type := 95, pos := _, after := #[], guard := none }) (v := ?_) rfl (by kernel_rfl) (by kernel_rfl) (by kernel_rfl) (fun _ _ _ h => h) (Or.inl ⟨by rfl, ?_⟩) (by assumption) ?_
      rotate_left
      · (intro w hSw; (try dsimp only at hSw); go_simp; try with_reducible rfl)
      simp only [Act.put, List.setIfInBounds_toArray, List.set_cons_zero, List.set_cons_succ]
      refine wpAnyH_take (i := 10) (oi := { dst := some 78, op := Op.load 35 (Operand.tmp 7), type := 35, pos := _, after := #[], guard := none }) (v := _) rfl (by kernel_rfl) (by kernel_rfl) (by kernel_rfl) (fun _ _ _ h => h) (yieldsIf_load_mid (by rfl) _ _ rfl q7 0 rfl _ _ (fun _ h => h.2.1) Tryz.underlying35 rfl ins_info) (by assumption) ?_
      simp only [Act.put, List.setIfInBounds_toArray, List.set_cons_zero, List.set_cons_succ]
      refine wpAnyH_take (i := 11) (oi := { dst := some 79, op := Op.load 50 (Operand.tmp 5), type := 50, pos := _, after := #[], guard := none }) (v := _) rfl (by kernel_rfl) (by kernel_rfl) (by kernel_rfl) (fun _ _ _ h => h) (yieldsIf_load_mid (by rfl) _ _ rfl (w.heap.size + 1) 0 rfl _ _ (fun _ h => h.2.2) Tryz.underlying50 rfl tk_info) (by assumption) ?_
      simp only [Act.put, List.setIfInBounds_toArray, List.set_cons_zero, List.set_cons_succ]
      refine wpAnyH_ready (rs := [4]) (by kernel_rfl) (by simp) ?_
      refine (AllReadyH.cons (o := { dst := some 72, op := Op.load 84 (Operand.tmp 71), type := 84, pos := _, after := #[{ on := 3, ground := Ground.data }], guard := none }) rfl (fun K hK => ?_) AllReadyH.nil)
      rw [if_pos (by kernel_rfl)]; refine wp_load_mid _ _ rfl cb 0 rfl (RL R) _ (regs_of HX.out.cpu) Tryz.underlying84 rfl HRi.out ?_
      refine hK.out _ _ ?_ (fun hHeld => ?_)
      · exact K2.out
      clear hK K
      try simp only [Act.put, List.setIfInBounds_toArray, List.set_cons_zero, List.set_cons_succ]
      refine wpAnyH_take (i := 12) (oi := { dst := some 80, op := Op.build 124 #[(0, Operand.tmp 72), (1, Operand.tmp 76), (2, Operand.tmp 77), (3, Operand.tmp 78), (4, Operand.tmp 79)], type := 124, pos := _, after := #[{ on := 4, ground := Ground.data }, { on := 8, ground := Ground.data }, { on := 9, ground := Ground.data }, { on := 10, ground := Ground.data }, { on := 11, ground := Ground.data }], guard := none }) (v := .agg (RL R ++ doE false (.iface 42 (.pointer (some ⟨lb, 0, none⟩))) i ⟨0, rg R 28, V, 0, 0, 0, 0, false⟩).toArray) rfl (by kernel_rfl) (by kernel_rfl) (by kernel_rfl) (fun _ _ _ h => h) (Or.inl ⟨by rfl, fun w hSw => build_do _ _ rfl R hR30 false lb i ⟨0, rg R 28, V, 0, 0, 0, 0, false⟩ rfl rfl rfl rfl rfl w⟩) (by assumption) ?_
      simp only [Act.put, List.setIfInBounds_toArray, List.set_cons_zero, List.set_cons_succ]
      refine wpAnyH_ready (rs := [13]) (by kernel_rfl) (by simp) ?_
      refine (AllReadyH.cons (o := { dst := some 81, op := Op.box 124 (Operand.tmp 80), type := 122, pos := _, after := #[{ on := 12, ground := Ground.data }], guard := none }) rfl (fun K hK => ?_) AllReadyH.nil)
      go_simp
      have hbn := below_new u1 (.cells (RL R ++ doE false (.iface 42 (.pointer (some ⟨lb, 0, none⟩))) i ⟨0, rg R 28, V, 0, 0, 0, 0, false⟩).toArray 124); have HD : Hid (DB (u1.alloc (.cells (RL R ++ doE false (.iface 42 (.pointer (some ⟨lb, 0, none⟩))) i ⟨0, rg R 28, V, 0, 0, 0, 0, false⟩).toArray 124)) u1.heap.size R false (busV lb) i ⟨0, rg R 28, V, 0, 0, 0, 0, false⟩) := hidW (RB.mk HX.out.cpu.ok (Bl.new u1 124 (RL R ++ doE false (.iface 42 (.pointer (some ⟨lb, 0, none⟩))) i ⟨0, rg R 28, V, 0, 0, 0, 0, false⟩))); have HNb : Hid (¬ LO lb pv hv av' u1.heap.size) := hidW (LO_lt (v := u1) HL.out (Nat.le_refl _)); have HB0 : Hid (w.heap.size + 1 < u1.heap.size) := HX.out.b1.lt; have HB7 : Hid (q7 < u1.heap.size) := HI7.out.lt; have HX := hidW (HX.out.step hbn); have HL := hidW (HL.out.below hbn); have HI7 := hidW (HI7.out.below hbn); generalize u1.alloc (.cells (RL R ++ doE false (.iface 42 (.pointer (some ⟨lb, 0, none⟩))) i ⟨0, rg R 28, V, 0, 0, 0, 0, false⟩).toArray 124) = u2 at HX HL HI7 HD ⊢; generalize u1.heap.size = b at HD HNb HB0 HB7 ⊢; have K2 : Hid (u2.cell? ⟨cb, 30, none⟩ = some (.bool false) ∧ u2.rangeAt q7 0 (Is.insL i) ∧ u2.rangeAt (w.heap.size + 1) 0 (tkL ⟨0, rg R 28, V, 0, 0, 0, 0, false⟩)) := hidW ⟨HX.out.cpu.ext 0 30 rfl, HI7.out.range, HX.out.b1.range⟩; clear hbn
      refine hK.out _ _ ?_ (fun hHeld => ?_)
      · exact K2.out
      clear hK K
      try simp only [Act.put, List.setIfInBounds_toArray, List.set_cons_zero, List.set_cons_succ]
      refine wpAnyH_ready (rs := [14]) (by kernel_rfl) (by simp) ?_
      refine (AllReadyH.cons (o := { dst := some 82, op := Op.call { callee := Callee.value (Operand.func 51), args := #[Operand.tmp 68, Operand.tmp 81], argTypes := #[27, 122] }, type := 50, pos := _, after := #[{ on := 0, ground := Ground.data }, { on := 13, ground := Ground.data }], guard := none }) rfl (fun K hK => ?_) AllReadyH.nil)
      go_simp
      go_at_call 51; have hcw := HX.out.hc; have hb0 := HB0.out; have hb7 := HB7.out; have hz7 := HZ7.out; have hnc : ¬ LO lb pv hv av' cb := (fun e => (HO3.out _ e).elim (fun h5 => HX.out.mc h5) (fun h5 => by omega)); refine (hdo i hdec u2 b av' HX.out.cpu HD.out HL.out (by omega) hnc HNb.out).mono ?_; rintro e u3 ⟨rfl, hdq⟩; have HF := hidW (hdq.fin HX.out HO3.out HN0.out HN1.out HN7.out HI7.out (by omega) (by omega) (by omega) (by omega) (by omega) (by omega)); have K2 : Hid (u3.cell? ⟨cb, 30, none⟩ = some (.bool false) ∧ u3.rangeAt q7 0 (Is.insL i) ∧ u3.rangeAt (w.heap.size + 1) 0 (tkL ⟨0, rg R 28, V, 0, 0, 0, 0, false⟩)) := hidW ⟨HF.out.1.1.ext 0 30 rfl, HF.out.1.2.1.range, HF.out.1.2.2.1.range⟩; clear hdq
      refine hK.out _ _ ?_ (fun hHeld => ?_)
      · exact K2.out
      clear hK K
      try simp only [Act.put, List.setIfInBounds_toArray, List.set_cons_zero, List.set_cons_succ]
      refine wpAnyH_ready (rs := [15]) (by kernel_rfl) (by simp) ?_
      refine (AllReadyH.cons (o := { dst := none, op := Op.store 50 (Operand.tmp 4) (Operand.tmp 82), type := 0, pos := _, after := #[{ on := 14, ground := Ground.data }, { on := 14, ground := Ground.chain }, { on := 0, ground := Ground.phase }, { on := 1, ground := Ground.phase }, { on := 2, ground := Ground.phase }, { on := 3, ground := Ground.phase }, { on := 4, ground := Ground.phase }, { on := 5, ground := Ground.phase }, { on := 6, ground := Ground.phase }, { on := 7, ground := Ground.phase }, { on := 8, ground := Ground.phase }, { on := 9, ground := Ground.phase }, { on := 10, ground := Ground.phase }, { on := 11, ground := Ground.phase }, { on := 12, ground := Ground.phase }, { on := 13, ground := Ground.phase }, { on := 14, ground := Ground.phase }], guard := none }) rfl (fun K hK => ?_) AllReadyH.nil)
      (rw [if_pos (by kernel_rfl)]; refine wp_store_mid _ _ _ rfl w.heap.size 0 (tkL t').toArray rfl rfl (HF.out.1.2.2.2.there 8 rfl) tk_info (tk_one _) ?_; have HZ := hidW (HF.out.2 t'); generalize World.setCells _ _ _ _ = u4 at HZ ⊢; refine hK.out _ _ ⟨HZ.out.1.cpu.ext 0 30 rfl, HZ.out.2.2.1.range, HZ.out.2.2.2.range⟩ (fun hHeld => ?_))
      clear hK K
      try simp only [Act.put, List.setIfInBounds_toArray, List.set_cons_zero, List.set_cons_succ]
      refine wpAnyH_done (by kernel_rfl) ?_ _
      go_wp2_with fail
      have hl := run_loadVar_mid _ w.heap.size 0 50 (tkL t') _ HZ.out.2.1.range Tryz.underlying50 rfl tk_info
      exact bodyPost_ret (v := .agg (tkL t').toArray) (by simp [results, Tryz.results34, asAddr, hl, Act.put]) rfl ⟨rfl, HZ.out.1⟩
end Go.Proofs.YtilhceajhlaojaaGreatDoor
