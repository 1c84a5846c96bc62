import Derived.Test.YtilhceajhlaojaaGreatDoorDj
import Derived.Test.YtilhceajhlaojaaGreatDoorZ12
import Derived.Defers
import Derived.Recover
import Derived.Test.YtilhceajhlaojaaGreatDoorZ13
import Derived.Test.YtilhceajhlaojaaGreatDoorZ10
namespace Go.Proofs.YtilhceajhlaojaaGreatDoor
open Go.RowKit
set_option linter.unusedVariables false
set_option linter.unusedSimpArgs false
set_option maxRecDepth 100000 in
set_option maxHeartbeats 1000000 in
/-- The deferred function, where nothing has panicked: the exception. -/
theorem gcatch (q4 q2 cb k : Nat) (w : World) (R : List Int) (hc : RB w cb 86 R [.bool false]) (te : TE w) (hk : k < 7) (c4 : w.cell? ⟨q4, 0, none⟩ = some (.int .i64 (k : Nat))) (c2 : w.cell? ⟨q2, 0, none⟩ = some (.pointer (some ⟨cb, 0, none⟩))) :
    CallsD Tryz.prog 32 #[.pointer (some ⟨q4, 0, none⟩), .pointer (some ⟨q2, 0, none⟩)] .returning w fun e u' w' => e = .returned (.tuple #[]) ∧ u' = .returning ∧ TA cb w w' ∧ RB w' cb 86 (raP k R) [.bool false] := by
  have HR : Hid (Calls Tryz.prog 33 #[.pointer (some ⟨cb, 0, none⟩), .int .i64 (k : Nat)] w fun e w' => e = .returned (.tuple #[]) ∧ TA cb w w' ∧ RB w' cb 86 (raP k R) [.bool false]) := graise w cb k 86 R _ hc te hk
  clear hc te
  refine callsD_of_wpS Tryz.func32 rfl fun c₀ cs hu => ?_
  apply wpS_seq
  apply wpS_seq
  apply wpS_region
  simp [wpOpsS, go_sem, recoverD, hu, Tryz.ntmps32, Exit.thenS]
  refine wpS_of_wp ?_
  have ea : (#[Value.pointer (some ⟨q4, 0, none⟩), Value.pointer (some ⟨q2, 0, none⟩)] ++ ((Array.replicate 11 undef).setIfInBounds 1 Value.nilIface).setIfInBounds 0 Value.nilIface) = #[Value.pointer (some ⟨q4, 0, none⟩), Value.pointer (some ⟨q2, 0, none⟩), .nilIface, .nilIface, undef, undef, undef, undef, undef, undef, undef, undef, undef] := by rfl
  rw [ea]
  go_wp2
  simp only [Exit.thenS]
  refine wpS_of_wp ?_
  go_wp2_with (first | (go_at_call 33; refine HR.out.mono ?_; rintro e w1 ⟨rfl, ht, hr⟩))
  cases c₀
  simp_all [bodyPostS, results, Tryz.results32]
/-- Behind a step, its exception taken. -/
structure SQ (W v : World) (cb lo lb : Nat) (pv hv av : Value) (l' : Ln) (R : List Int) : Prop where
  lq : ∃ av', LX v lo lb pv hv av' l' ∧ ∀ g, LO lb pv hv av' g → LO lb pv hv av g ∨ W.heap.size ≤ g
  turn : Turn (fun x => x = cb ∨ LO lb pv hv av x) W v
  cpu : RB v cb 86 R [.bool false]
/-- Two new blocks ahead of the step. -/
theorem NQ.sq {w w1 w3 w4 : World} {cb lo lb q4 : Nat} {pv hv av : Value} {l' : Ln} {R R2 : List Int} {w2 : World} (hb : Below w.heap.size w w2) (h : NQ w2 w1 cb lo lb pv hv av l' R) (hL : ∀ g, LO lb pv hv av g → g < w.heap.size) (hq : w.heap.size ≤ q4) (hq2 : q4 < w2.heap.size) (hcw : cb < w.heap.size) (mc : ¬ LO lb pv hv av cb) (hT : TA q4 w1 w3) (hT4 : TA cb w3 w4) (hc4 : RB w4 cb 86 R2 [.bool false]) : SQ w w4 cb lo lb pv hv av l' R2 := by
  obtain ⟨a, k1, k2⟩ := h.lq
  have hs := hb.size
  have n4 : ¬ LO lb pv hv a q4 := fun e => by
    rcases k2 q4 e with h5 | h5
    · have := hL q4 h5; omega
    · omega
  have nc : ¬ LO lb pv hv a cb := fun e => by
    rcases k2 cb e with h5 | h5
    · exact mc h5
    · omega
  refine ⟨⟨a, (k1.turn hT (fun g hg e => n4 ((show g = q4 from e) ▸ hg))).turn hT4 (fun g hg e => nc ((show g = cb from e) ▸ hg)), fun g hg => (k2 g hg).imp_right (fun h5 => by omega)⟩, ?_, hc4⟩
  have h1 := turn_of_below hb h.turn
  have h2 : Turn (fun x => x = cb ∨ LO lb pv hv av x) w w3 := h1.trans hT (fun x hx => .inr (by have e : x = q4 := hx; omega))
  exact h2.trans hT4 (fun x hx => .inl (.inl hx))
set_option maxRecDepth 100000 in
set_option maxHeartbeats 1000000 in
theorem gStep (w : World) (cb lo lb k : Nat) (pv hv av : Value) (l l' : Ln) (R R' : List Int) (t' : Tk) (hc : RB w cb 86 R [.bool false]) (hx : LX w lo lb pv hv av l) (mc : ¬ LO lb pv hv av cb) (te : TE w) (hlo : 4 < lo) (hcb : 4 < cb) (hk : k < 7) (hkt : t'.kind = (k : Nat))
    (hnext : ∀ v, RB v cb 86 R [.bool false] → LX v lo lb pv hv av l → TE v → Calls Tryz.prog 34 #[.pointer (some ⟨cb, 0, none⟩), busV lb] v fun e w' => e = .returned (.agg (tkA t')) ∧ NQ v w' cb lo lb pv hv av l' R') :
    Calls Tryz.prog 16 #[.pointer (some ⟨cb, 0, none⟩), busV lb] w fun e w' => e = .returned (.tuple #[.agg (tkA t'), .int .i64 0]) ∧ SQ w w' cb lo lb pv hv av l' (raP k R') := by
  have hmf : ∀ (fn : Fn) (first cap : Array Value) (w : World), (Instr.makeFunc fn first cap).run Tryz.prog w = .ok (.func fn first cap) w := fun _ _ _ _ => rfl
  have hcw := hc.bl.lt
  have HLw : Hid (∀ g, LO lb pv hv av g → g < w.heap.size) := fun g hg => hx.lt hg
  have HB : Hid (∀ o A, A.size = 8 → Below w.heap.size w ((w.alloc o).alloc (.cells A 50))) := fun o A _ => Below.step (below_new _ _) (below_new _ _)
  have HN : Hid (∀ o A, Calls Tryz.prog 34 #[.pointer (some ⟨cb, 0, none⟩), .iface 42 (.pointer (some ⟨lb, 0, none⟩))] ((w.alloc o).alloc (.cells A 50)) fun e w' => e = .returned (.agg (tkA t')) ∧ NQ ((w.alloc o).alloc (.cells A 50)) w' cb lo lb pv hv av l' R') := fun o A => by
    have hb : Below w.heap.size w ((w.alloc o).alloc (.cells A 50)) := Below.step (below_new _ _) (below_new _ _)
    exact hnext _ (hc.below hb) (hx.below hb) (te.below hb)
  have HK : Hid (∀ A : Array Value, A.toList = tkL tkZ → ∀ w1, NQ ((w.alloc (.cells #[.pointer (some ⟨cb, 0, none⟩)] 27)).alloc (.cells A 50)) w1 cb lo lb pv hv av l' R' → Bl w1 (w.heap.size + 1) 50 (tkL tkZ) ∧ w1.cell? ⟨w.heap.size, 0, none⟩ = some (.pointer (some ⟨cb, 0, none⟩)) ∧ TE w1) := fun A hA w1 hn => by
    have b1 := below_new w (.cells #[.pointer (some ⟨cb, 0, none⟩)] 27)
    have b2 := below_new (w.alloc (.cells #[.pointer (some ⟨cb, 0, none⟩)] 27)) (.cells A 50)
    have h0 := (Bl.new w 27 [.pointer (some ⟨cb, 0, none⟩)]).below b2
    have h1 := newA (w.alloc (.cells #[.pointer (some ⟨cb, 0, none⟩)] 27)) 50 A
    rw [hA, World.size_alloc] at h1
    have n0 : ¬ (w.heap.size = cb ∨ LO lb pv hv av w.heap.size) := fun e => by
      rcases e with e | e
      · omega
      · have := hx.lt e; omega
    have n1 : ¬ (w.heap.size + 1 = cb ∨ LO lb pv hv av (w.heap.size + 1)) := fun e => by
      rcases e with e | e
      · omega
      · have := hx.lt e; omega
    refine ⟨h1.turn hn.turn n1, (h0.turn hn.turn n0).cell 0, (te.below (Below.step b1 b2)).turn hn.turn (fun g hg => ?_)⟩
    rcases hg with e | e
    · omega
    · have := hx.ge e; omega
  have h4w := te.size
  clear hc hx te hnext
  unfold busV
  go_enter_defers Tryz.func16, Tryz.ntmps16
  go_wp2_with (first | (go_at_call 34; refine (HN.out _ _).mono ?_; rintro e w1 ⟨rfl, hn⟩; obtain ⟨hq4, c2, te1⟩ := HK.out _ rfl w1 hn; have HQ4 := hidW hq4; have HTE := hidW te1; have HNQ := hidW hn; clear hn hq4 te1) | (guard_target =~ wpList _ _ _ (Oper.mk none (Op.store 50 _ _) _ _ _ _ :: _) _ _; refine wpList_store_mid rfl _ _ _ rfl (w.heap.size + 1) 0 (tkL t').toArray rfl rfl (HQ4.out.there 8 rfl) tk_info (tk_one _) ?_; have HT3 : Hid (TA (w.heap.size + 1) w1 (w1.setCells (w.heap.size + 1) 0 (tkL t'))) := set_turn _ 0 w1 w1 (Turn.refl _ _); have HQ5 := hidW (set_all (new := tkL t') HQ4.out rfl); generalize hw3 : World.setCells _ _ _ _ = w3; have e3 : w1.setCells (w.heap.size + 1) 0 (tkL t') = w3 := hw3; rw [e3] at HT3 HQ5; clear hw3 e3))
  have n13 : w.heap.size ≠ w.heap.size + 1 := by omega
  have c2b : w3.cell? ⟨w.heap.size, 0, none⟩ = some (.pointer (some ⟨cb, 0, none⟩)) := cell_turnS c2 HT3.out n13
  have te3 : TE w3 := HTE.out.turn HT3.out (fun g e => by have e : g = w.heap.size + 1 := e; omega)
  have hc3 : RB w3 cb 86 R' [.bool false] := RB.turn HNQ.out.cpu HT3.out (fun e => by have e : cb = w.heap.size + 1 := e; omega)
  have c4 : w3.cell? ⟨w.heap.size + 1, 0, none⟩ = some (.int .i64 (k : Nat)) := by rw [← hkt]; exact HQ5.out.cell 0
  refine leaves_cons (f := 32) (args := #[.pointer (some ⟨w.heap.size + 1, 0, none⟩), .pointer (some ⟨w.heap.size, 0, none⟩)]) (by simp) (by simp [go_sem]) ?_
  refine (gcatch (w.heap.size + 1) w.heap.size cb k w3 R' hc3 te3 hk c4 c2b).mono ?_
  rintro e u' w4 ⟨rfl, rfl, ht4, hc4⟩
  have hq6 : Bl w4 (w.heap.size + 1) 50 (tkL t') := HQ5.out.turn ht4 (fun e => by have e : w.heap.size + 1 = cb := e; omega)
  have hl := run_loadVar_mid w4 (w.heap.size + 1) 0 50 (tkL t') _ hq6.range Tryz.underlying50 rfl tk_info
  have hfin : SQ w w4 cb lo lb pv hv av l' (raP k R') := HNQ.out.sq (HB.out _ _ rfl) HLw.out (Nat.le_succ _) (by simp) hcw mc HT3.out ht4 hc4
  have z0 : w4.cell? ⟨w.heap.size + 1, 0, none⟩ = some (.int .i64 t'.kind) := hq6.cell 0
  have z1 : w4.cell? ⟨w.heap.size + 1, 1, none⟩ = some (.int .u32 t'.at_) := hq6.cell 1
  have z2 : w4.cell? ⟨w.heap.size + 1, 2, none⟩ = some (.int .u32 t'.word) := hq6.cell 2
  have z3 : w4.cell? ⟨w.heap.size + 1, 3, none⟩ = some (.int .u32 t'.va) := hq6.cell 3
  have z4 : w4.cell? ⟨w.heap.size + 1, 4, none⟩ = some (.int .i64 t'.fk) := hq6.cell 4
  have z5 : w4.cell? ⟨w.heap.size + 1, 5, none⟩ = some (.int .i64 t'.fl) := hq6.cell 5
  have z6 : w4.cell? ⟨w.heap.size + 1, 6, none⟩ = some (.int .i64 t'.fd) := hq6.cell 6
  have z7 : w4.cell? ⟨w.heap.size + 1, 7, none⟩ = some (.bool t'.store) := hq6.cell 7
  simp [Leaves, settle, results, Tryz.results16, go_sem, z0, z1, z2, z3, z4, z5, z6, z7]
  exact ⟨rfl, hfin⟩
end Go.Proofs.YtilhceajhlaojaaGreatDoor
namespace Go.Proofs.YtilhceajhlaojaaGreatDoor
open Go.RowKit
set_option linter.unusedVariables false
set_option linter.unusedSimpArgs false
set_option maxRecDepth 100000 in
theorem gno (e : Int) (w : World) : Calls Tryz.prog 17 #[.int .i64 e] w fun r w' => r = .returned (.int .i64 e) ∧ w' = w := by
  go_enter Tryz.func17, Tryz.ntmps17
  go_wp2
  exact bodyPost_ret (v := .int .i64 e) (by simp [results, Tryz.results17, go_sem]) rfl ⟨rfl, rfl⟩
theorem and_split (X M : Nat) (hX : X < 4294967296) (hM : M < 4294967296) : (X &&& (4294967295 - M) = 0) ↔ (X &&& M = X) := by
  have h : ∀ j, j < 32 → (4294967295 - M).testBit j = !M.testBit j := fun j hj => by
    have := Nat.testBit_two_pow_sub_succ (x := M) (n := 32) (by rw [show (2 : Nat) ^ 32 = 4294967296 by decide]; exact hM) j
    have h32 : (2 : Nat) ^ 32 = 4294967296 := by decide
    rw [show (2 : Nat) ^ 32 - (M + 1) = 4294967295 - M by omega] at this
    rw [this]
    simp [hj]
  constructor
  · intro h0
    apply Nat.eq_of_testBit_eq
    intro j
    by_cases hj : j < 32
    · have h1 : (X &&& (4294967295 - M)).testBit j = false := by rw [h0]; exact Nat.zero_testBit j
      rw [Nat.testBit_and, h j hj] at h1
      rw [Nat.testBit_and]
      cases hx : X.testBit j <;> cases hm : M.testBit j <;> simp_all
    · have hx : X.testBit j = false := Nat.testBit_lt_two_pow (Nat.lt_of_lt_of_le hX (by rw [show (4294967296 : Nat) = 2 ^ 32 by decide]; exact Nat.pow_le_pow_right (by decide) (by omega)))
      rw [Nat.testBit_and, hx]; rfl
  · intro h0
    apply Nat.eq_of_testBit_eq
    intro j
    rw [Nat.zero_testBit]
    by_cases hj : j < 32
    · have h1 : (X &&& M).testBit j = X.testBit j := by rw [h0]
      rw [Nat.testBit_and] at h1
      rw [Nat.testBit_and, h j hj]
      cases hx : X.testBit j <;> cases hm : M.testBit j <;> simp_all
    · have hx : X.testBit j = false := Nat.testBit_lt_two_pow (Nat.lt_of_lt_of_le hX (by rw [show (4294967296 : Nat) = 2 ^ 32 by decide]; exact Nat.pow_le_pow_right (by decide) (by omega)))
      rw [Nat.testBit_and, hx]; rfl
/-- Bits that are not kept. -/
def exW (x : Int) : Bool := bits .andNot .u32 x 4026531999 != 0
theorem exW_ke {x : Int} (h : 0 ≤ x ∧ x < 4294967296) : exW x = !decide (keW x = x) := by
  obtain ⟨X, rfl⟩ := Int.eq_ofNat_of_zero_le h.1
  have hs := and_split X 4026531999 (by omega) (by decide)
  unfold exW keW
  rw [show (4026531999 : Int) = ((4026531999 : Nat) : Int) from rfl, u32_andNot_nat X _ (by omega) (by decide), u32_and_nat X _ (by omega) (by decide)]
  by_cases h0 : X &&& (4294967295 - 4026531999) = 0
  · rw [h0, decide_eq_true (by rw [hs.1 h0] : ((X &&& 4026531999 : Nat) : Int) = (X : Int))]; rfl
  · have h1 : ¬ (((X &&& 4026531999 : Nat) : Int) = (X : Int)) := fun e => h0 (hs.2 (by omega))
    rw [decide_eq_false h1]
    simp only [Bool.not_false, bne_iff_ne, ne_eq]
    omega
set_option maxRecDepth 100000 in
set_option maxHeartbeats 2000000 in
theorem gis_at (w : World) (R : List Int) (h : ROk R) (o eP e29 e23 e24 e25 e26 e27 : Bool) (ho : (bkO (mdR R)).isSome = o) (heP : (rg R 28 % 4 != 0) = eP) (he29 : exW (rg R 29) = e29) (he23 : (rg R 23 != 0) = e23) (he24 : exW (rg R 24) = e24) (he25 : exW (rg R 25) = e25) (he26 : exW (rg R 26) = e26) (he27 : exW (rg R 27) = e27) : Calls Tryz.prog 26 #[.agg (RL R).toArray] w fun e w' => e = .returned (.bool (o && !eP && !e29 && !e23 && !e24 && !e25 && !e26 && !e27)) ∧ Below w.heap.size w w' := by
  have hb := Bl.new w 26 (RL R)
  have HN : Hid (Below w.heap.size w (w.alloc (.cells (RL R).toArray 26))) := below_new _ _
  have c23 : (w.alloc (.cells (RL R).toArray 26)).cell? ⟨w.heap.size, 23, none⟩ = some (.int .u32 (rg R 23)) := by rw [hb.cell, RL_at h.len (by decide)]
  have c24 : (w.alloc (.cells (RL R).toArray 26)).cell? ⟨w.heap.size, 24, none⟩ = some (.int .u32 (rg R 24)) := by rw [hb.cell, RL_at h.len (by decide)]
  have c25 : (w.alloc (.cells (RL R).toArray 26)).cell? ⟨w.heap.size, 25, none⟩ = some (.int .u32 (rg R 25)) := by rw [hb.cell, RL_at h.len (by decide)]
  have c26 : (w.alloc (.cells (RL R).toArray 26)).cell? ⟨w.heap.size, 26, none⟩ = some (.int .u32 (rg R 26)) := by rw [hb.cell, RL_at h.len (by decide)]
  have c27 : (w.alloc (.cells (RL R).toArray 26)).cell? ⟨w.heap.size, 27, none⟩ = some (.int .u32 (rg R 27)) := by rw [hb.cell, RL_at h.len (by decide)]
  have c28 : (w.alloc (.cells (RL R).toArray 26)).cell? ⟨w.heap.size, 28, none⟩ = some (.int .u32 (rg R 28)) := by rw [hb.cell, RL_at h.len (by decide)]
  have c29 : (w.alloc (.cells (RL R).toArray 26)).cell? ⟨w.heap.size, 29, none⟩ = some (.int .u32 (rg R 29)) := by rw [hb.cell, RL_at h.len (by decide)]
  have hm : bits .and .u32 (rg R 29) 31 = mdR R := band_mod 5 31 _ (by decide) (by decide) (h.rng 29)
  have hmr : 0 ≤ mdR R ∧ mdR R < 32 := by unfold mdR; omega
  have hm2 : IntKind.i64.wrap (mdR R) = mdR R := by rw [IntKind.wrap_i64]; omega
  have HB : Hid (∀ v, Calls Tryz.prog 40 #[.int .i64 (mdR R)] v fun e w' => e = .returned (.tuple #[.int .i64 (bkN (mdR R) : Nat), .bool o]) ∧ w' = v) := fun v => by
    have := gBank_at (mdR R) v
    rw [ho] at this
    exact this
  have r28 := h.rng 28
  have m28 : 0 ≤ rg R 28 % 4 := by omega
  unfold exW at *
  generalize rg R 23 = x23 at *
  generalize rg R 24 = x24 at *
  generalize rg R 25 = x25 at *
  generalize rg R 26 = x26 at *
  generalize rg R 27 = x27 at *
  generalize rg R 28 = x28 at *
  generalize rg R 29 = x29 at *
  clear hb
  generalize mdR R = md at *
  generalize bkN md = bk at *
  cases o
  · go_enter Tryz.func26, Tryz.ntmps26
    go_wp2_with (first | (go_at_call 40; refine (HB.out _).mono ?_; rintro e w1 ⟨rfl, rfl⟩))
    exact bodyPost_ret (v := .bool false) (by simp [results, Tryz.results26, go_sem]) rfl ⟨by simp, HN.out⟩
  · cases eP
    · cases e29
      · cases e23
        · cases e24
          · cases e25
            · cases e26
              · cases e27
                · go_enter Tryz.func26, Tryz.ntmps26
                  go_wp2_with (first | (go_at_call 40; refine (HB.out _).mono ?_; rintro e w1 ⟨rfl, rfl⟩))
                  refine wp_loop_rounds 5 ?_
                  rw [rounds_succ]
                  go_wp2
                  rw [rounds_succ]
                  go_wp2
                  rw [rounds_succ]
                  go_wp2
                  rw [rounds_succ]
                  go_wp2
                  rw [rounds_succ]
                  go_wp2
                  exact bodyPost_ret (v := .bool true) (by simp [results, Tryz.results26, go_sem]) rfl ⟨by simp, HN.out⟩
                · go_enter Tryz.func26, Tryz.ntmps26
                  go_wp2_with (first | (go_at_call 40; refine (HB.out _).mono ?_; rintro e w1 ⟨rfl, rfl⟩))
                  refine wp_loop_rounds 5 ?_
                  rw [rounds_succ]
                  go_wp2
                  rw [rounds_succ]
                  go_wp2
                  rw [rounds_succ]
                  go_wp2
                  rw [rounds_succ]
                  go_wp2
                  exact bodyPost_ret (v := .bool false) (by simp [results, Tryz.results26, go_sem]) rfl ⟨by simp, HN.out⟩
              · go_enter Tryz.func26, Tryz.ntmps26
                go_wp2_with (first | (go_at_call 40; refine (HB.out _).mono ?_; rintro e w1 ⟨rfl, rfl⟩))
                refine wp_loop_rounds 5 ?_
                rw [rounds_succ]
                go_wp2
                rw [rounds_succ]
                go_wp2
                rw [rounds_succ]
                go_wp2
                exact bodyPost_ret (v := .bool false) (by simp [results, Tryz.results26, go_sem]) rfl ⟨by simp, HN.out⟩
            · go_enter Tryz.func26, Tryz.ntmps26
              go_wp2_with (first | (go_at_call 40; refine (HB.out _).mono ?_; rintro e w1 ⟨rfl, rfl⟩))
              refine wp_loop_rounds 5 ?_
              rw [rounds_succ]
              go_wp2
              rw [rounds_succ]
              go_wp2
              exact bodyPost_ret (v := .bool false) (by simp [results, Tryz.results26, go_sem]) rfl ⟨by simp, HN.out⟩
          · go_enter Tryz.func26, Tryz.ntmps26
            go_wp2_with (first | (go_at_call 40; refine (HB.out _).mono ?_; rintro e w1 ⟨rfl, rfl⟩))
            refine wp_loop_rounds 5 ?_
            rw [rounds_succ]
            go_wp2
            exact bodyPost_ret (v := .bool false) (by simp [results, Tryz.results26, go_sem]) rfl ⟨by simp, HN.out⟩
        · go_enter Tryz.func26, Tryz.ntmps26
          go_wp2_with (first | (go_at_call 40; refine (HB.out _).mono ?_; rintro e w1 ⟨rfl, rfl⟩))
          exact bodyPost_ret (v := .bool false) (by simp [results, Tryz.results26, go_sem]) rfl ⟨by simp, HN.out⟩
      · go_enter Tryz.func26, Tryz.ntmps26
        go_wp2_with (first | (go_at_call 40; refine (HB.out _).mono ?_; rintro e w1 ⟨rfl, rfl⟩))
        exact bodyPost_ret (v := .bool false) (by simp [results, Tryz.results26, go_sem]) rfl ⟨by simp, HN.out⟩
    · go_enter Tryz.func26, Tryz.ntmps26
      go_wp2_with (first | (go_at_call 40; refine (HB.out _).mono ?_; rintro e w1 ⟨rfl, rfl⟩))
      exact bodyPost_ret (v := .bool false) (by simp [results, Tryz.results26, go_sem]) rfl ⟨by simp, HN.out⟩
theorem isR_eq {R : List Int} (h : ROk R) : isR R = ((bkO (mdR R)).isSome && !(rg R 28 % 4 != 0) && !exW (rg R 29) && !(rg R 23 != 0) && !exW (rg R 24) && !exW (rg R 25) && !exW (rg R 26) && !exW (rg R 27)) := by
  have r24 := h.rng 24
  have r25 := h.rng 25
  have r26 := h.rng 26
  have r27 := h.rng 27
  have r29 := h.rng 29
  have r28 := h.rng 28
  rw [exW_ke r24, exW_ke r25, exW_ke r26, exW_ke r27, exW_ke r29]
  have hl := h.len
  clear h
  unfold isR
  obtain ⟨a0, a1, a2, a3, a4, a5, a6, a7, a8, a9, a10, a11, a12, a13, a14, a15, a16, a17, a18, a19, a20, a21, a22, a23, a24, a25, a26, a27, a28, a29, rfl⟩ : ∃ a0 a1 a2 a3 a4 a5 a6 a7 a8 a9 a10 a11 a12 a13 a14 a15 a16 a17 a18 a19 a20 a21 a22 a23 a24 a25 a26 a27 a28 a29, R = [a0, a1, a2, a3, a4, a5, a6, a7, a8, a9, a10, a11, a12, a13, a14, a15, a16, a17, a18, a19, a20, a21, a22, a23, a24, a25, a26, a27, a28, a29] := by
    match R, hl with
    | [a0, a1, a2, a3, a4, a5, a6, a7, a8, a9, a10, a11, a12, a13, a14, a15, a16, a17, a18, a19, a20, a21, a22, a23, a24, a25, a26, a27, a28, a29], _ => exact ⟨_, _, _, _, _, _, _, _, _, _, _, _, _, _, _, _, _, _, _, _, _, _, _, _, _, _, _, _, _, _, rfl⟩
  generalize (bkO (mdR [a0, a1, a2, a3, a4, a5, a6, a7, a8, a9, a10, a11, a12, a13, a14, a15, a16, a17, a18, a19, a20, a21, a22, a23, a24, a25, a26, a27, a28, a29])).isSome = o
  cases o
  · rfl
  rw [Bool.true_and, Bool.true_and]
  have e : keR [a0, a1, a2, a3, a4, a5, a6, a7, a8, a9, a10, a11, a12, a13, a14, a15, a16, a17, a18, a19, a20, a21, a22, a23, a24, a25, a26, a27, a28, a29] = [a0, a1, a2, a3, a4, a5, a6, a7, a8, a9, a10, a11, a12, a13, a14, a15, a16, a17, a18, a19, a20, a21, a22, 0, keW a24, keW a25, keW a26, keW a27, alW a28, keW a29] := rfl
  rw [e]
  change 0 ≤ a28 ∧ _ at r28
  show _ = (!(a28 % 4 != 0) && !!decide (keW a29 = a29) && !(a23 != 0) && !!decide (keW a24 = a24) && !!decide (keW a25 = a25) && !!decide (keW a26 = a26) && !!decide (keW a27 = a27))
  rw [Bool.eq_iff_iff]
  simp only [decide_eq_true_eq, List.cons.injEq, Bool.and_eq_true, Bool.not_not, true_and, and_true, bne_iff_ne, ne_eq, Bool.not_eq_true', bne_eq_false_iff_eq]
  unfold alW
  constructor
  · rintro ⟨h1, h2, h3, h4, h5, h6, h7⟩
    refine ⟨⟨⟨⟨⟨⟨by omega, h7⟩, h1.symm⟩, h2⟩, h3⟩, h4⟩, h5⟩
  · rintro ⟨⟨⟨⟨⟨⟨h1, h2⟩, h3⟩, h4⟩, h5⟩, h6⟩, h7⟩
    exact ⟨h3.symm, h4, h5, h6, h7, by omega, h2⟩
theorem gis (w : World) (R : List Int) (h : ROk R) : Calls Tryz.prog 26 #[.agg (RL R).toArray] w fun e w' => e = .returned (.bool (isR R)) ∧ Below w.heap.size w w' := by
  rw [isR_eq h]
  exact gis_at w R h _ _ _ _ _ _ _ _ rfl rfl rfl rfl rfl rfl rfl rfl
end Go.Proofs.YtilhceajhlaojaaGreatDoor
namespace Go.Proofs.YtilhceajhlaojaaGreatDoor
open Go.RowKit
set_option linter.unusedVariables false
set_option linter.unusedSimpArgs false
set_option maxRecDepth 100000 in
theorem gReg (w : World) (b : Nat) (R : List Int) (E : List Value) (n : Int) (h : RB w b 86 R E) (hn : 0 ≤ n ∧ n ≤ 15) : Calls Tryz.prog 27 #[.pointer (some ⟨b, 0, none⟩), .int .i64 n] w fun e w' => e = .returned (.int .u32 (gtR R n)) ∧ Below w.heap.size w w' := by
  have HG : Hid (∀ w, RB w b 86 R E → Calls Tryz.prog 36 #[.pointer (some ⟨b, 0, none⟩), .int .i64 n] w fun e w' => e = .returned (.int .u32 (gtR R n)) ∧ Below w.heap.size w w') := fun w h => gget w b R n h.rs hn
  have HI : Hid (∀ w, Calls Tryz.prog 38 #[.int .i64 n] w fun e w' => e = .returned (.bool true) ∧ w' = w) := fun w => by
    have := gisReg n w
    rw [decide_eq_true hn] at this
    exact this
  have HX := hidW h
  generalize gtR R n = y at *
  clear h hn
  go_enter Tryz.func27, Tryz.ntmps27
  go_wp2_with (first | (go_at_call 38; refine (HI.out _).mono ?_; rintro e w1 ⟨rfl, rfl⟩) | (go_at_call 36; refine (HG.out _ HX.out).mono ?_; rintro e w1 ⟨rfl, hb⟩; have HW := hidW hb; clear hb))
  exact bodyPost_ret (v := .int .u32 y) (by simp [results, Tryz.results27, go_sem]) rfl ⟨rfl, HW.out⟩
/-- While a processor is made: the box of the state, the processor. -/
structure NP (w v : World) (S R : List Int) : Prop where
  bel : Below w.heap.size w v
  box : Bl v w.heap.size 26 (RL S)
  cpu : RB v (w.heap.size + 1) 86 R [.bool false]
theorem NP.step {w v v' : World} {S R : List Int} (h : NP w v S R) (hb : Below v.heap.size v v') : NP w v' S R := ⟨Below.step h.bel hb, h.box.below hb, h.cpu.below hb⟩
theorem NP.drew {w v : World} {S R : List Int} (h : NP w v S R) : NP w v.drew S R := ⟨below_drew h.bel, h.box.drew, h.cpu.drew⟩
theorem NP.load {w v v' : World} {S R R' : List Int} (h : NP w v S R) (ht : TA (w.heap.size + 1) v v') (hc : RB v' (w.heap.size + 1) 86 R' [.bool false]) : NP w v' S R' :=
  ⟨h.bel.trans (Turn.to ht (fun x hx => by have e : x = w.heap.size + 1 := hx; omega) h.bel.size), h.box.turn ht (fun e => by have e : w.heap.size = w.heap.size + 1 := e; omega), hc⟩
set_option maxRecDepth 100000 in
set_option maxHeartbeats 1000000 in
theorem gmade_no (w : World) (S : List Int) (hS : ROk S) (hO : isR S = false) : Calls Tryz.prog 9 #[.agg (RL S).toArray] w fun e w' => e = .returned (.pointer (some ⟨w.heap.size + 1, 0, none⟩)) ∧ NP w w' S nwR := by
  have HI : Hid ((Tryz.prog.info? 26).map (·.size) = some (RL S).length) := by rw [RL_len hS]; exact state_info
  have HS : Hid (∀ v, Calls Tryz.prog 26 #[.agg (RL S).toArray] v fun e w' => e = .returned (.bool false) ∧ Below v.heap.size v w') := fun v => by
    have := gis v S hS
    rw [hO] at this
    exact this
  have HN : Hid (Calls Tryz.prog 24 #[] (w.alloc (.cells (RL S).toArray 26)) fun e w' => e = .returned (.pointer (some ⟨w.heap.size + 1, 0, none⟩)) ∧ NP w w' S nwR) := by
    refine (gNew _).mono ?_
    rintro e w' ⟨rfl, hb, hc⟩
    rw [World.size_alloc] at hc ⊢
    exact ⟨rfl, Below.step (below_new _ _) hb, (Bl.new w 26 (RL S)).below hb, hc⟩
  have HL : Hid (∀ v, NP w v S nwR → Calls Tryz.prog 22 #[.pointer (some ⟨w.heap.size + 1, 0, none⟩), .agg (RL S).toArray] v fun e w' => e = .returned (.int .i64 200) ∧ Below v.heap.size v w') := fun v h => gLoad_no v _ nwR S _ h.cpu hS hO
  have HNo : Hid (∀ v, Calls Tryz.prog 17 #[.int .i64 200] v fun r w' => r = .returned (.int .i64 200) ∧ w' = v) := fun v => gno 200 v
  clear hO hS
  go_enter Tryz.func9, Tryz.ntmps9
  go_wp2_with (first | (go_at_call 24; refine HN.out.mono ?_; rintro e w1 ⟨rfl, hx⟩; have HX := hidW hx; have HR := hidW hx.box.range; clear hx) | (guard_target =~ wpList _ _ _ (Oper.mk (some 9) _ _ _ _ _ :: _) _ _; refine wpList_load_mid rfl _ _ rfl w.heap.size 0 rfl (RL S) _ HR.out Tryz.underlying26 rfl HI.out ?_) | (go_at_call 22; refine (HL.out _ HX.out).mono ?_; rintro e w2 ⟨rfl, hb⟩; have HX := hidW (HX.out.step hb); have HR := hidW HX.out.box.range; clear hb))
  refine wp_region_held_drew (S := fun v => v.rangeAt w.heap.size 0 (RL S)) (by kernel_rfl) HX.out.box.range (fun hHeld => ?_)
  clear hHeld
  have HX := hidW HX.out.drew
  have K2 := hidW HX.out.box.range
  generalize w2.drew = w3 at HX K2 ⊢
  refine wpAnyH_take (i := 0) (oi := { dst := some 11, op := Op.move (Operand.tmp 4), type := 51, pos := _, after := #[], guard := none }) (v := ?_) rfl (by kernel_rfl) (by kernel_rfl) (by kernel_rfl) (fun _ _ _ h => h) (Or.inl ⟨by rfl, ?_⟩) (by assumption) ?_
  rotate_left
  · (intro w hSw; (try dsimp only at hSw); go_simp; try with_reducible rfl)
  simp only [Act.put, List.setIfInBounds_toArray, List.set_cons_zero, List.set_cons_succ]
  refine wpAnyH_take (i := 3) (oi := { dst := some 14, op := Op.load 26 (Operand.tmp 1), type := 26, pos := _, after := #[], guard := none }) (v := _) rfl (by kernel_rfl) (by kernel_rfl) (by kernel_rfl) (fun _ _ _ h => h) (yieldsIf_load_mid (by rfl) _ _ rfl w.heap.size 0 rfl _ _ (fun _ h => h) Tryz.underlying26 rfl HI.out) (by assumption) ?_
  simp only [Act.put, List.setIfInBounds_toArray, List.set_cons_zero, List.set_cons_succ]
  refine wpAnyH_ready (rs := [1]) (by kernel_rfl) (by simp) ?_
  refine (AllReadyH.cons (o := { dst := some 12, op := Op.call { callee := Callee.value (Operand.func 17), args := #[Operand.tmp 11], argTypes := #[51] }, type := 3, pos := _, after := #[{ on := 0, ground := Ground.data }], guard := none }) rfl (fun K hK => ?_) AllReadyH.nil)
  go_simp
  go_at_call 17; refine (HNo.out _).mono ?_; rintro e wu ⟨rfl, hwe⟩; have hwe := hwe.symm; subst hwe
  refine hK.out _ _ ?_ (fun hHeld => ?_)
  · exact K2.out
  clear hK K
  try simp only [Act.put, List.setIfInBounds_toArray, List.set_cons_zero, List.set_cons_succ]
  refine wpAnyH_take (i := 2) (oi := { dst := some 13, op := Op.binOp BinOp.eql 3 (Operand.tmp 12) (Operand.const (Value.int IntKind.i64 0)) 3, type := 4, pos := _, after := #[{ on := 1, ground := Ground.data }], guard := none }) (v := ?_) rfl (by kernel_rfl) (by kernel_rfl) (by kernel_rfl) (fun _ _ _ h => h) (Or.inl ⟨by rfl, ?_⟩) (by assumption) ?_
  rotate_left
  · (intro w hSw; (try dsimp only at hSw); go_simp; try with_reducible rfl)
  simp only [Act.put, List.setIfInBounds_toArray, List.set_cons_zero, List.set_cons_succ]
  refine wpAnyH_ready (rs := [4]) (by kernel_rfl) (by simp) ?_
  refine (AllReadyH.cons (o := { dst := some 15, op := Op.call { callee := Callee.value (Operand.func 26), args := #[Operand.tmp 14], argTypes := #[26] }, type := 4, pos := _, after := #[{ on := 3, ground := Ground.data }, { on := 1, ground := Ground.chain }], guard := none }) rfl (fun K hK => ?_) AllReadyH.nil)
  go_simp
  go_at_call 26; refine (HS.out _).mono ?_; rintro e w4 ⟨rfl, hb⟩; have HX := hidW (HX.out.step hb); have K2 := hidW HX.out.box.range; clear hb
  refine hK.out _ _ ?_ (fun hHeld => ?_)
  · exact K2.out
  clear hK K
  try simp only [Act.put, List.setIfInBounds_toArray, List.set_cons_zero, List.set_cons_succ]
  refine wpAnyH_take (i := 5) (oi := { dst := some 16, op := Op.binOp BinOp.neq 4 (Operand.tmp 13) (Operand.tmp 15) 4, type := 4, pos := _, after := #[{ on := 2, ground := Ground.data }, { on := 4, ground := Ground.data }], guard := none }) (v := ?_) rfl (by kernel_rfl) (by kernel_rfl) (by kernel_rfl) (fun _ _ _ h => h) (Or.inl ⟨by rfl, ?_⟩) (by assumption) ?_
  rotate_left
  · (intro w hSw; (try dsimp only at hSw); go_simp; try with_reducible rfl)
  simp only [Act.put, List.setIfInBounds_toArray, List.set_cons_zero, List.set_cons_succ]
  refine wpAnyH_take (i := 6) (oi := { dst := some 17, op := Op.move (Operand.tmp 16), type := 4, pos := _, after := #[{ on := 5, ground := Ground.data }, { on := 4, ground := Ground.chain }], guard := none }) (v := ?_) rfl (by kernel_rfl) (by kernel_rfl) (by kernel_rfl) (fun _ _ _ h => h) (Or.inl ⟨by rfl, ?_⟩) (by assumption) ?_
  rotate_left
  · (intro w hSw; (try dsimp only at hSw); go_simp; try with_reducible rfl)
  simp only [Act.put, List.setIfInBounds_toArray, List.set_cons_zero, List.set_cons_succ]
  refine wpAnyH_take (i := 7) (oi := { dst := some 18, op := Op.move (Operand.tmp 4), type := 51, pos := _, after := #[{ on := 6, ground := Ground.guard }], guard := some (6, false) }) (v := ?_) rfl (by kernel_rfl) (by kernel_rfl) (by kernel_rfl) (fun _ _ _ h => h) (Or.inl ⟨by rfl, ?_⟩) (by assumption) ?_
  rotate_left
  · (intro w hSw; (try dsimp only at hSw); go_simp; try with_reducible rfl)
  simp only [Act.put, List.setIfInBounds_toArray, List.set_cons_zero, List.set_cons_succ]
  refine wpAnyH_ready (rs := [8]) (by kernel_rfl) (by simp) ?_
  refine (AllReadyH.cons (o := { dst := some 19, op := Op.call { callee := Callee.value (Operand.func 17), args := #[Operand.tmp 18], argTypes := #[51] }, type := 3, pos := _, after := #[{ on := 7, ground := Ground.data }, { on := 6, ground := Ground.chain }, { on := 6, ground := Ground.guard }], guard := some (6, false) }) rfl (fun K hK => ?_) AllReadyH.nil)
  go_simp
  go_at_call 17; refine (HNo.out _).mono ?_; rintro e wu ⟨rfl, hwe⟩; have hwe := hwe.symm; subst hwe
  refine hK.out _ _ ?_ (fun hHeld => ?_)
  · exact K2.out
  clear hK K
  try simp only [Act.put, List.setIfInBounds_toArray, List.set_cons_zero, List.set_cons_succ]
  refine wpAnyH_take (i := 9) (oi := { dst := some 20, op := Op.binOp BinOp.eql 3 (Operand.tmp 19) (Operand.const (Value.int IntKind.i64 0)) 3, type := 4, pos := _, after := #[{ on := 8, ground := Ground.data }, { on := 6, ground := Ground.guard }], guard := some (6, false) }) (v := ?_) rfl (by kernel_rfl) (by kernel_rfl) (by kernel_rfl) (fun _ _ _ h => h) (Or.inl ⟨by rfl, ?_⟩) (by assumption) ?_
  rotate_left
  · (intro w hSw; (try dsimp only at hSw); go_simp; try with_reducible rfl)
  simp only [Act.put, List.setIfInBounds_toArray, List.set_cons_zero, List.set_cons_succ]
  refine wpAnyH_take (i := 10) (oi := { dst := some 21, op := Op.move (Operand.tmp 20), type := 4, pos := _, after := #[{ on := 9, ground := Ground.data }, { on := 8, ground := Ground.chain }, { on := 6, ground := Ground.guard }], guard := some (6, false) }) (v := ?_) rfl (by kernel_rfl) (by kernel_rfl) (by kernel_rfl) (fun _ _ _ h => h) (Or.inl ⟨by rfl, ?_⟩) (by assumption) ?_
  rotate_left
  · (intro w hSw; (try dsimp only at hSw); go_simp; try with_reducible rfl)
  simp only [Act.put, List.setIfInBounds_toArray, List.set_cons_zero, List.set_cons_succ]
  refine wpAnyH_take (i := 11) (oi := { dst := some 22, op := Op.move (Operand.tmp 3), type := 27, pos := _, after := #[{ on := 10, ground := Ground.guard }], guard := some (10, true) }) (v := undef) rfl (by kernel_rfl) (by kernel_rfl) (by kernel_rfl) (fun _ _ _ h => h) (Or.inr ⟨by rfl, rfl⟩) (by assumption) ?_
  simp only [Act.put, List.setIfInBounds_toArray, List.set_cons_zero, List.set_cons_succ]
  refine wpAnyH_take (i := 12) (oi := { dst := some 23, op := Op.call { callee := Callee.value (Operand.func 11), args := #[Operand.tmp 22], argTypes := #[27] }, type := 26, pos := _, after := #[{ on := 11, ground := Ground.data }, { on := 10, ground := Ground.chain }, { on := 10, ground := Ground.guard }], guard := some (10, true) }) (v := undef) rfl (by kernel_rfl) (by kernel_rfl) (by kernel_rfl) (fun _ _ _ h => h) (Or.inr ⟨by rfl, rfl⟩) (by assumption) ?_
  simp only [Act.put, List.setIfInBounds_toArray, List.set_cons_zero, List.set_cons_succ]
  refine wpAnyH_take (i := 13) (oi := { dst := some 24, op := Op.load 26 (Operand.tmp 1), type := 26, pos := _, after := #[{ on := 10, ground := Ground.guard }], guard := some (10, true) }) (v := undef) rfl (by kernel_rfl) (by kernel_rfl) (by kernel_rfl) (fun _ _ _ h => h) (Or.inr ⟨by rfl, rfl⟩) (by assumption) ?_
  simp only [Act.put, List.setIfInBounds_toArray, List.set_cons_zero, List.set_cons_succ]
  refine wpAnyH_take (i := 14) (oi := { dst := some 25, op := Op.binOp BinOp.neq 26 (Operand.tmp 23) (Operand.tmp 24) 26, type := 4, pos := _, after := #[{ on := 12, ground := Ground.data }, { on := 13, ground := Ground.data }, { on := 10, ground := Ground.guard }], guard := some (10, true) }) (v := undef) rfl (by kernel_rfl) (by kernel_rfl) (by kernel_rfl) (fun _ _ _ h => h) (Or.inr ⟨by rfl, rfl⟩) (by assumption) ?_
  simp only [Act.put, List.setIfInBounds_toArray, List.set_cons_zero, List.set_cons_succ]
  refine wpAnyH_take (i := 15) (oi := { dst := some 26, op := Op.pick (Operand.tmp 21) (Operand.tmp 25) (Operand.const (Value.bool false)), type := 4, pos := _, after := #[{ on := 10, ground := Ground.data }, { on := 14, ground := Ground.data }, { on := 6, ground := Ground.guard }], guard := some (6, false) }) (v := ?_) rfl (by kernel_rfl) (by kernel_rfl) (by kernel_rfl) (fun _ _ _ h => h) (Or.inl ⟨by rfl, ?_⟩) (by assumption) ?_
  rotate_left
  · (intro w hSw; (try dsimp only at hSw); go_simp; try with_reducible rfl)
  simp only [Act.put, List.setIfInBounds_toArray, List.set_cons_zero, List.set_cons_succ]
  refine wpAnyH_take (i := 16) (oi := { dst := some 27, op := Op.pick (Operand.tmp 17) (Operand.const (Value.bool true)) (Operand.tmp 26), type := 4, pos := _, after := #[{ on := 6, ground := Ground.data }, { on := 15, ground := Ground.data }], guard := none }) (v := ?_) rfl (by kernel_rfl) (by kernel_rfl) (by kernel_rfl) (fun _ _ _ h => h) (Or.inl ⟨by rfl, ?_⟩) (by assumption) ?_
  rotate_left
  · (intro w hSw; (try dsimp only at hSw); go_simp; try with_reducible rfl)
  simp only [Act.put, List.setIfInBounds_toArray, List.set_cons_zero, List.set_cons_succ]
  refine wpAnyH_done (by kernel_rfl) ?_ _
  go_wp2
  exact bodyPost_ret (v := .pointer (some ⟨w.heap.size + 1, 0, none⟩)) (by simp [results, Tryz.results9, go_sem]) rfl ⟨rfl, HX.out⟩
set_option maxRecDepth 100000 in
set_option maxHeartbeats 1000000 in
theorem gmade_yes (w : World) (S : List Int) (hS : ROk S) (hO : isR S = true) : Calls Tryz.prog 9 #[.agg (RL S).toArray] w fun e w' => e = .returned (.pointer (some ⟨w.heap.size + 1, 0, none⟩)) ∧ NP w w' S S := by
  have HI : Hid ((Tryz.prog.info? 26).map (·.size) = some (RL S).length) := by rw [RL_len hS]; exact state_info
  have HS : Hid (∀ v, Calls Tryz.prog 26 #[.agg (RL S).toArray] v fun e w' => e = .returned (.bool true) ∧ Below v.heap.size v w') := fun v => by
    have := gis v S hS
    rw [hO] at this
    exact this
  have HN : Hid (Calls Tryz.prog 24 #[] (w.alloc (.cells (RL S).toArray 26)) fun e w' => e = .returned (.pointer (some ⟨w.heap.size + 1, 0, none⟩)) ∧ NP w w' S nwR) := by
    refine (gNew _).mono ?_
    rintro e w' ⟨rfl, hb, hc⟩
    rw [World.size_alloc] at hc ⊢
    exact ⟨rfl, Below.step (below_new _ _) hb, (Bl.new w 26 (RL S)).below hb, hc⟩
  have HL : Hid (∀ v, NP w v S nwR → Calls Tryz.prog 22 #[.pointer (some ⟨w.heap.size + 1, 0, none⟩), .agg (RL S).toArray] v fun e w' => e = .returned (.int .i64 0) ∧ NP w w' S S) := fun v h => (gLoad_yes v _ nwR S _ h.cpu hS hO).mono (by rintro e w' ⟨rfl, ht, hc⟩; exact ⟨rfl, h.load ht hc⟩)
  have HNo : Hid (∀ v, Calls Tryz.prog 17 #[.int .i64 0] v fun r w' => r = .returned (.int .i64 0) ∧ w' = v) := fun v => gno 0 v
  have HSt : Hid (∀ v, NP w v S S → Calls Tryz.prog 11 #[.pointer (some ⟨w.heap.size + 1, 0, none⟩)] v fun e w' => e = .returned (.agg (RL S).toArray) ∧ Below v.heap.size v w') := fun v h => gState v _ S _ h.cpu
  have heq : ∀ v, (Op.equalIn 10000 26 (.agg (RL S).toArray) (.agg (RL S).toArray)).run Tryz.prog v = .ok true v := fun v => by
    rw [eqS S S hS.len hS.len v, decide_eq_true rfl]
  clear hO hS
  go_enter Tryz.func9, Tryz.ntmps9
  go_wp2_with (first | (go_at_call 24; refine HN.out.mono ?_; rintro e w1 ⟨rfl, hx⟩; have HX := hidW hx; have HR := hidW hx.box.range; clear hx) | (guard_target =~ wpList _ _ _ (Oper.mk (some 9) _ _ _ _ _ :: _) _ _; refine wpList_load_mid rfl _ _ rfl w.heap.size 0 rfl (RL S) _ HR.out Tryz.underlying26 rfl HI.out ?_) | (go_at_call 22; refine (HL.out _ HX.out).mono ?_; rintro e w2 ⟨rfl, hx⟩; have HX := hidW hx; clear hx))
  refine wp_region_held_drew (S := fun v => v.rangeAt w.heap.size 0 (RL S)) (by kernel_rfl) HX.out.box.range (fun hHeld => ?_)
  clear hHeld
  have HX := hidW HX.out.drew
  have K2 := hidW HX.out.box.range
  generalize w2.drew = w3 at HX K2 ⊢
  refine wpAnyH_take (i := 0) (oi := { dst := some 11, op := Op.move (Operand.tmp 4), type := 51, pos := _, after := #[], guard := none }) (v := ?_) rfl (by kernel_rfl) (by kernel_rfl) (by kernel_rfl) (fun _ _ _ h => h) (Or.inl ⟨by rfl, ?_⟩) (by assumption) ?_
  rotate_left
  · (intro w hSw; (try dsimp only at hSw); go_simp; try with_reducible rfl)
  simp only [Act.put, List.setIfInBounds_toArray, List.set_cons_zero, List.set_cons_succ]
  refine wpAnyH_take (i := 3) (oi := { dst := some 14, op := Op.load 26 (Operand.tmp 1), type := 26, pos := _, after := #[], guard := none }) (v := _) rfl (by kernel_rfl) (by kernel_rfl) (by kernel_rfl) (fun _ _ _ h => h) (yieldsIf_load_mid (by rfl) _ _ rfl w.heap.size 0 rfl _ _ (fun _ h => h) Tryz.underlying26 rfl HI.out) (by assumption) ?_
  simp only [Act.put, List.setIfInBounds_toArray, List.set_cons_zero, List.set_cons_succ]
  refine wpAnyH_ready (rs := [1]) (by kernel_rfl) (by simp) ?_
  refine (AllReadyH.cons (o := { dst := some 12, op := Op.call { callee := Callee.value (Operand.func 17), args := #[Operand.tmp 11], argTypes := #[51] }, type := 3, pos := _, after := #[{ on := 0, ground := Ground.data }], guard := none }) rfl (fun K hK => ?_) AllReadyH.nil)
  go_simp
  go_at_call 17; refine (HNo.out _).mono ?_; rintro e wu ⟨rfl, hwe⟩; have hwe := hwe.symm; subst hwe
  refine hK.out _ _ ?_ (fun hHeld => ?_)
  · exact K2.out
  clear hK K
  try simp only [Act.put, List.setIfInBounds_toArray, List.set_cons_zero, List.set_cons_succ]
  refine wpAnyH_take (i := 2) (oi := { dst := some 13, op := Op.binOp BinOp.eql 3 (Operand.tmp 12) (Operand.const (Value.int IntKind.i64 0)) 3, type := 4, pos := _, after := #[{ on := 1, ground := Ground.data }], guard := none }) (v := ?_) rfl (by kernel_rfl) (by kernel_rfl) (by kernel_rfl) (fun _ _ _ h => h) (Or.inl ⟨by rfl, ?_⟩) (by assumption) ?_
  rotate_left
  · (intro w hSw; (try dsimp only at hSw); go_simp; try with_reducible rfl)
  simp only [Act.put, List.setIfInBounds_toArray, List.set_cons_zero, List.set_cons_succ]
  refine wpAnyH_ready (rs := [4]) (by kernel_rfl) (by simp) ?_
  refine (AllReadyH.cons (o := { dst := some 15, op := Op.call { callee := Callee.value (Operand.func 26), args := #[Operand.tmp 14], argTypes := #[26] }, type := 4, pos := _, after := #[{ on := 3, ground := Ground.data }, { on := 1, ground := Ground.chain }], guard := none }) rfl (fun K hK => ?_) AllReadyH.nil)
  go_simp
  go_at_call 26; refine (HS.out _).mono ?_; rintro e w4 ⟨rfl, hb⟩; have HX := hidW (HX.out.step hb); have K2 := hidW HX.out.box.range; clear hb
  refine hK.out _ _ ?_ (fun hHeld => ?_)
  · exact K2.out
  clear hK K
  try simp only [Act.put, List.setIfInBounds_toArray, List.set_cons_zero, List.set_cons_succ]
  refine wpAnyH_take (i := 5) (oi := { dst := some 16, op := Op.binOp BinOp.neq 4 (Operand.tmp 13) (Operand.tmp 15) 4, type := 4, pos := _, after := #[{ on := 2, ground := Ground.data }, { on := 4, ground := Ground.data }], guard := none }) (v := ?_) rfl (by kernel_rfl) (by kernel_rfl) (by kernel_rfl) (fun _ _ _ h => h) (Or.inl ⟨by rfl, ?_⟩) (by assumption) ?_
  rotate_left
  · (intro w hSw; (try dsimp only at hSw); go_simp; try with_reducible rfl)
  simp only [Act.put, List.setIfInBounds_toArray, List.set_cons_zero, List.set_cons_succ]
  refine wpAnyH_take (i := 6) (oi := { dst := some 17, op := Op.move (Operand.tmp 16), type := 4, pos := _, after := #[{ on := 5, ground := Ground.data }, { on := 4, ground := Ground.chain }], guard := none }) (v := ?_) rfl (by kernel_rfl) (by kernel_rfl) (by kernel_rfl) (fun _ _ _ h => h) (Or.inl ⟨by rfl, ?_⟩) (by assumption) ?_
  rotate_left
  · (intro w hSw; (try dsimp only at hSw); go_simp; try with_reducible rfl)
  simp only [Act.put, List.setIfInBounds_toArray, List.set_cons_zero, List.set_cons_succ]
  refine wpAnyH_take (i := 7) (oi := { dst := some 18, op := Op.move (Operand.tmp 4), type := 51, pos := _, after := #[{ on := 6, ground := Ground.guard }], guard := some (6, false) }) (v := ?_) rfl (by kernel_rfl) (by kernel_rfl) (by kernel_rfl) (fun _ _ _ h => h) (Or.inl ⟨by rfl, ?_⟩) (by assumption) ?_
  rotate_left
  · (intro w hSw; (try dsimp only at hSw); go_simp; try with_reducible rfl)
  simp only [Act.put, List.setIfInBounds_toArray, List.set_cons_zero, List.set_cons_succ]
  refine wpAnyH_ready (rs := [8]) (by kernel_rfl) (by simp) ?_
  refine (AllReadyH.cons (o := { dst := some 19, op := Op.call { callee := Callee.value (Operand.func 17), args := #[Operand.tmp 18], argTypes := #[51] }, type := 3, pos := _, after := #[{ on := 7, ground := Ground.data }, { on := 6, ground := Ground.chain }, { on := 6, ground := Ground.guard }], guard := some (6, false) }) rfl (fun K hK => ?_) AllReadyH.nil)
  go_simp
  go_at_call 17; refine (HNo.out _).mono ?_; rintro e wu ⟨rfl, hwe⟩; have hwe := hwe.symm; subst hwe
  refine hK.out _ _ ?_ (fun hHeld => ?_)
  · exact K2.out
  clear hK K
  try simp only [Act.put, List.setIfInBounds_toArray, List.set_cons_zero, List.set_cons_succ]
  refine wpAnyH_take (i := 9) (oi := { dst := some 20, op := Op.binOp BinOp.eql 3 (Operand.tmp 19) (Operand.const (Value.int IntKind.i64 0)) 3, type := 4, pos := _, after := #[{ on := 8, ground := Ground.data }, { on := 6, ground := Ground.guard }], guard := some (6, false) }) (v := ?_) rfl (by kernel_rfl) (by kernel_rfl) (by kernel_rfl) (fun _ _ _ h => h) (Or.inl ⟨by rfl, ?_⟩) (by assumption) ?_
  rotate_left
  · (intro w hSw; (try dsimp only at hSw); go_simp; try with_reducible rfl)
  simp only [Act.put, List.setIfInBounds_toArray, List.set_cons_zero, List.set_cons_succ]
  refine wpAnyH_take (i := 10) (oi := { dst := some 21, op := Op.move (Operand.tmp 20), type := 4, pos := _, after := #[{ on := 9, ground := Ground.data }, { on := 8, ground := Ground.chain }, { on := 6, ground := Ground.guard }], guard := some (6, false) }) (v := ?_) rfl (by kernel_rfl) (by kernel_rfl) (by kernel_rfl) (fun _ _ _ h => h) (Or.inl ⟨by rfl, ?_⟩) (by assumption) ?_
  rotate_left
  · (intro w hSw; (try dsimp only at hSw); go_simp; try with_reducible rfl)
  simp only [Act.put, List.setIfInBounds_toArray, List.set_cons_zero, List.set_cons_succ]
  refine wpAnyH_take (i := 11) (oi := { dst := some 22, op := Op.move (Operand.tmp 3), type := 27, pos := _, after := #[{ on := 10, ground := Ground.guard }], guard := some (10, true) }) (v := ?_) rfl (by kernel_rfl) (by kernel_rfl) (by kernel_rfl) (fun _ _ _ h => h) (Or.inl ⟨by rfl, ?_⟩) (by assumption) ?_
  rotate_left
  · (intro w hSw; (try dsimp only at hSw); go_simp; try with_reducible rfl)
  simp only [Act.put, List.setIfInBounds_toArray, List.set_cons_zero, List.set_cons_succ]
  refine wpAnyH_take (i := 13) (oi := { dst := some 24, op := Op.load 26 (Operand.tmp 1), type := 26, pos := _, after := #[{ on := 10, ground := Ground.guard }], guard := some (10, true) }) (v := _) rfl (by kernel_rfl) (by kernel_rfl) (by kernel_rfl) (fun _ _ _ h => h) (yieldsIf_load_mid (by rfl) _ _ rfl w.heap.size 0 rfl _ _ (fun _ h => h) Tryz.underlying26 rfl HI.out) (by assumption) ?_
  simp only [Act.put, List.setIfInBounds_toArray, List.set_cons_zero, List.set_cons_succ]
  refine wpAnyH_ready (rs := [12]) (by kernel_rfl) (by simp) ?_
  refine (AllReadyH.cons (o := { dst := some 23, op := Op.call { callee := Callee.value (Operand.func 11), args := #[Operand.tmp 22], argTypes := #[27] }, type := 26, pos := _, after := #[{ on := 11, ground := Ground.data }, { on := 10, ground := Ground.chain }, { on := 10, ground := Ground.guard }], guard := some (10, true) }) rfl (fun K hK => ?_) AllReadyH.nil)
  go_simp
  go_at_call 11; refine (HSt.out _ HX.out).mono ?_; rintro e w5 ⟨rfl, hb⟩; have HX := hidW (HX.out.step hb); have K2 := hidW HX.out.box.range; clear hb
  refine hK.out _ _ ?_ (fun hHeld => ?_)
  · exact K2.out
  clear hK K
  try simp only [Act.put, List.setIfInBounds_toArray, List.set_cons_zero, List.set_cons_succ]
  refine wpAnyH_take (i := 14) (oi := { dst := some 25, op := Op.binOp BinOp.neq 26 (Operand.tmp 23) (Operand.tmp 24) 26, type := 4, pos := _, after := #[{ on := 12, ground := Ground.data }, { on := 13, ground := Ground.data }, { on := 10, ground := Ground.guard }], guard := some (10, true) }) (v := ?_) rfl (by kernel_rfl) (by kernel_rfl) (by kernel_rfl) (fun _ _ _ h => h) (Or.inl ⟨by rfl, ?_⟩) (by assumption) ?_
  rotate_left
  · (intro w hSw; (try dsimp only at hSw); go_simp; try with_reducible rfl)
  simp only [Act.put, List.setIfInBounds_toArray, List.set_cons_zero, List.set_cons_succ]
  refine wpAnyH_take (i := 15) (oi := { dst := some 26, op := Op.pick (Operand.tmp 21) (Operand.tmp 25) (Operand.const (Value.bool false)), type := 4, pos := _, after := #[{ on := 10, ground := Ground.data }, { on := 14, ground := Ground.data }, { on := 6, ground := Ground.guard }], guard := some (6, false) }) (v := ?_) rfl (by kernel_rfl) (by kernel_rfl) (by kernel_rfl) (fun _ _ _ h => h) (Or.inl ⟨by rfl, ?_⟩) (by assumption) ?_
  rotate_left
  · (intro w hSw; (try dsimp only at hSw); go_simp; try with_reducible rfl)
  simp only [Act.put, List.setIfInBounds_toArray, List.set_cons_zero, List.set_cons_succ]
  refine wpAnyH_take (i := 16) (oi := { dst := some 27, op := Op.pick (Operand.tmp 17) (Operand.const (Value.bool true)) (Operand.tmp 26), type := 4, pos := _, after := #[{ on := 6, ground := Ground.data }, { on := 15, ground := Ground.data }], guard := none }) (v := ?_) rfl (by kernel_rfl) (by kernel_rfl) (by kernel_rfl) (fun _ _ _ h => h) (Or.inl ⟨by rfl, ?_⟩) (by assumption) ?_
  rotate_left
  · (intro w hSw; (try dsimp only at hSw); go_simp; try with_reducible rfl)
  simp only [Act.put, List.setIfInBounds_toArray, List.set_cons_zero, List.set_cons_succ]
  refine wpAnyH_done (by kernel_rfl) ?_ _
  go_wp2
  exact bodyPost_ret (v := .pointer (some ⟨w.heap.size + 1, 0, none⟩)) (by simp [results, Tryz.results9, go_sem]) rfl ⟨rfl, HX.out⟩
/-- The processor that is made. -/
def mdS (S : List Int) : List Int := if isR S then S else nwR
theorem gmade (w : World) (S : List Int) (hS : ROk S) : Calls Tryz.prog 9 #[.agg (RL S).toArray] w fun e w' => e = .returned (.pointer (some ⟨w.heap.size + 1, 0, none⟩)) ∧ NP w w' S (mdS S) := by
  unfold mdS
  by_cases h : isR S = true
  · rw [if_pos h]; exact gmade_yes w S hS h
  · rw [if_neg h]; exact gmade_no w S hS (by simpa using h)
end Go.Proofs.YtilhceajhlaojaaGreatDoor
