import Derived.Test.YtmodcbdgnmjkoabDoorMG
import Derived.Test.YtmodcbdgnmjkoabDoorMS
namespace Go.Proofs.YtmodcbdgnmjkoabDoor
open Go.RowKit
set_option linter.unusedVariables false
set_option linter.unusedSimpArgs false
/-- The tables that a check reads; those that P708 reads. -/
structure TC (w : World) : Prop where
  r : TR w
  p : TP w
theorem TC.below {w w' : World} (h : TC w) (hb : Below w.heap.size w w') : TC w' := ⟨h.r.below hb, h.p.below hb⟩
/-- A domain's field; the first fault that bars; what a check answers. -/
def fdF (a d : Int) : Int := a / 2 ^ (2 * d).toNat % 4
def baF (t : Tra) (afe : Bool) (a : Int) (priv : Bool) (k : Int) : Int :=
  if afe = true ∧ t.ap % 2 = 0 then 7 else if fdF a t.dom = 3 then 0 else if fdF a t.dom = 1 then (if alF t.ap t.xn afe priv k then 0 else 9) else 8
def chF (t : Tra) (c : Ctx) (priv : Bool) (k : Int) : Fa :=
  if c.on && riF t then (if baF t c.afe c.dacr priv k = 0 then fZ else ⟨baF t c.afe c.dacr priv k, lvF t.size, t.dom⟩) else fZ
set_option maxRecDepth 100000 in
theorem gfield_any (a d : Int) (w : World) (ha : 0 ≤ a ∧ a < 4294967296) (hd : 0 ≤ d ∧ d ≤ 15) :
    Calls Tryd.prog 64 #[.int .u32 a, .int .i64 d] w fun e w' => e = .returned (.int .u32 (fdF a d)) ∧ w = w' := by
  have h3 := band3 (a / 2 ^ (2 * d).toNat) (shr_range a _ ha)
  have hw : IntKind.i64.wrap (2 * d) = 2 * d := by rw [IntKind.wrap_i64]; omega
  have hm : 0 ≤ 2 * d := by omega
  have hm2 : 2 * d < 32 := by omega
  clear ha hd
  unfold fdF
  go_enter Tryd.func64, Tryd.ntmps64
  go_wp2
  go_ret
  exact ⟨rfl, rfl⟩
set_option maxRecDepth 100000 in
theorem level_any (s : Int) (w : World) : Calls Tryd.prog 33 #[.int .i64 s] w fun e w' => e = .returned (.int .i64 (lvF s)) ∧ w = w' := by
  rcases (show s = 1 ∨ s = 2 ∨ s = 3 ∨ s = 4 ∨ (¬ s = 1 ∧ ¬ s = 2 ∧ ¬ s = 3 ∧ ¬ s = 4) by omega) with rfl | rfl | rfl | rfl | ⟨h1, h2, h3, h4⟩
  iterate 4
    · go_enter Tryd.func33, Tryd.ntmps33
      go_wp2
      go_ret
      exact ⟨rfl, rfl⟩
  · have z1 : (s == 1) = false := by simp [h1]
    have z2 : (s == 2) = false := by simp [h2]
    have z3 : (s == 3) = false := by simp [h3]
    have z4 : (s == 4) = false := by simp [h4]
    go_enter Tryd.func33, Tryd.ntmps33
    go_wp2
    go_ret
    exact ⟨by simp [lvF, h1, h2, h3, h4], rfl⟩
theorem and64_1 (a : Int) (h : 0 ≤ a ∧ a ≤ 7) : bits .and .i64 a 1 = a % 2 := by
  rcases (show a = 0 ∨ a = 1 ∨ a = 2 ∨ a = 3 ∨ a = 4 ∨ a = 5 ∨ a = 6 ∨ a = 7 by omega) with rfl | rfl | rfl | rfl | rfl | rfl | rfl | rfl <;> kernel_rfl
/-- Both boxes. -/
structure BK (w wr : World) (t : Tra) (c : Ctx) : Prop where
  bel : Below w.heap.size w wr
  T : Bl wr w.heap.size 49 [.int .i64 t.size, .int .u32 t.va, .int .u64 t.pa, .int .i64 t.dom, .int .i64 t.ap, .int .u32 t.bits, .bool t.ng, .bool t.xn]
  C : Bl wr (w.heap.size + 1) 26 [.bool c.on, .bool c.tre, .bool c.afe, .int .i64 c.n, .bool c.pd0, .bool c.pd1, .int .u64 c.b0, .int .u64 c.b1, .int .u32 c.dacr, .int .u32 c.prrr, .int .u32 c.nmrr, .int .i64 c.asid]
theorem BK.new (w : World) (t : Tra) (c : Ctx) : BK w ((w.alloc (.cells #[.int .i64 t.size, .int .u32 t.va, .int .u64 t.pa, .int .i64 t.dom, .int .i64 t.ap, .int .u32 t.bits, .bool t.ng, .bool t.xn] 49)).alloc (.cells #[.bool c.on, .bool c.tre, .bool c.afe, .int .i64 c.n, .bool c.pd0, .bool c.pd1, .int .u64 c.b0, .int .u64 c.b1, .int .u32 c.dacr, .int .u32 c.prrr, .int .u32 c.nmrr, .int .i64 c.asid] 26)) t c := by
  have h := Bl.new (w.alloc (.cells #[.int .i64 t.size, .int .u32 t.va, .int .u64 t.pa, .int .i64 t.dom, .int .i64 t.ap, .int .u32 t.bits, .bool t.ng, .bool t.xn] 49)) 26 [.bool c.on, .bool c.tre, .bool c.afe, .int .i64 c.n, .bool c.pd0, .bool c.pd1, .int .u64 c.b0, .int .u64 c.b1, .int .u32 c.dacr, .int .u32 c.prrr, .int .u32 c.nmrr, .int .i64 c.asid]
  rw [show (w.alloc (.cells #[.int .i64 t.size, .int .u32 t.va, .int .u64 t.pa, .int .i64 t.dom, .int .i64 t.ap, .int .u32 t.bits, .bool t.ng, .bool t.xn] 49)).heap.size = w.heap.size + 1 by simp] at h
  exact ⟨Below.step (below_new _ _) (below_new _ _), (Bl.new _ _ _).below (below_new _ _), h⟩
theorem BK.step {w wr wn : World} {t : Tra} {c : Ctx} (h : BK w wr t c) (hb : Below wr.heap.size wr wn) : BK w wn t c := ⟨Below.step h.bel hb, h.T.below hb, h.C.below hb⟩
theorem BK.drew {w wr : World} {t : Tra} {c : Ctx} (h : BK w wr t c) : BK w wr.drew t c := ⟨below_drew h.bel, h.T.drew, h.C.drew⟩
set_option maxRecDepth 100000 in
set_option maxHeartbeats 2000000 in
theorem barrier_any (t : Tra) (c : Ctx) (priv : Bool) (k : Int) (w : World) (hT : TP w) (ha : 0 ≤ c.dacr ∧ c.dacr < 4294967296) (hd : 0 ≤ t.dom ∧ t.dom ≤ 15) (hp : 0 ≤ t.ap ∧ t.ap ≤ 7) :
    Calls Tryd.prog 32 #[.agg #[.int .i64 t.size, .int .u32 t.va, .int .u64 t.pa, .int .i64 t.dom, .int .i64 t.ap, .int .u32 t.bits, .bool t.ng, .bool t.xn], .agg #[.bool c.on, .bool c.tre, .bool c.afe, .int .i64 c.n, .bool c.pd0, .bool c.pd1, .int .u64 c.b0, .int .u64 c.b1, .int .u32 c.dacr, .int .u32 c.prrr, .int .u32 c.nmrr, .int .i64 c.asid], .bool priv, .int .i64 k] w fun e w' => e = .returned (.int .i64 (baF t c.afe c.dacr priv k)) ∧ Below w.heap.size w w' := by
  have HF : Hid (∀ w, Calls Tryd.prog 64 #[.int .u32 c.dacr, .int .i64 t.dom] w fun e w' => e = .returned (.int .u32 (fdF c.dacr t.dom)) ∧ w = w') := fun w => gfield_any c.dacr t.dom w ha hd
  have HA : Hid (∀ w, TP w → Calls Tryd.prog 65 #[.agg #[.int .i64 t.ap, .int .u32 t.bits, .bool t.ng, .bool t.xn], .bool c.afe, .bool priv, .int .i64 k] w fun e w' => e = .returned (.bool (alF t.ap t.xn c.afe priv k)) ∧ Below w.heap.size w w') := fun w hw => allows_any t.ap t.bits t.ng t.xn c.afe priv k w hw
  have b1 := and64_1 t.ap hp
  have HT : Hid (TP w) := hT
  have HX0 : Hid (BK w ((w.alloc (.cells #[.int .i64 t.size, .int .u32 t.va, .int .u64 t.pa, .int .i64 t.dom, .int .i64 t.ap, .int .u32 t.bits, .bool t.ng, .bool t.xn] 49)).alloc (.cells #[.bool c.on, .bool c.tre, .bool c.afe, .int .i64 c.n, .bool c.pd0, .bool c.pd1, .int .u64 c.b0, .int .u64 c.b1, .int .u32 c.dacr, .int .u32 c.prrr, .int .u32 c.nmrr, .int .i64 c.asid] 26)) t c) := BK.new w t c
  unfold baF
  obtain ⟨on, tre, afe, cn, pd0, pd1, c0, c1, dacr, prrr, nmrr, asid⟩ := c
  simp only at *
  generalize fdF dacr t.dom = v at *
  clear hT ha hd hp
  by_cases h1 : afe = true ∧ t.ap % 2 = 0
  · obtain ⟨rfl, h1⟩ := h1
    rw [if_pos ⟨rfl, h1⟩]
    rw [h1] at b1
    clear h1
    go_enter Tryd.func32, Tryd.ntmps32
    go_wp2
    go_ret
    exact ⟨rfl, HX0.out.bel⟩
  · rw [if_neg h1]
    have hg : afe = false ∨ (afe = true ∧ (t.ap % 2 == 0) = false) := by
      cases afe
      · exact Or.inl rfl
      · right
        refine ⟨rfl, ?_⟩
        simpa using h1
    clear h1
    by_cases h3 : v = 3
    · subst h3
      rcases hg with rfl | ⟨rfl, q1⟩
      all_goals
        go_enter Tryd.func32, Tryd.ntmps32
        go_wp2_with (first | (go_at_call 64; refine (HF.out _).mono ?_; rintro e w' ⟨rfl, rfl⟩) | go_in)
        go_ret
        exact ⟨by simp, HX0.out.bel⟩
    · have q3 : (v == 3) = false := by simp [h3]
      rw [if_neg h3]
      by_cases h4 : v = 1
      · subst h4
        rw [if_pos rfl]
        obtain ⟨X, hX⟩ : ∃ X, alF t.ap t.xn afe priv k = X := ⟨_, rfl⟩
        rw [hX] at HA ⊢
        clear hX
        rcases hg with rfl | ⟨rfl, q1⟩
        all_goals
          cases X
          all_goals
            go_enter Tryd.func32, Tryd.ntmps32
            go_wp2_with (first | (go_at_call 64; refine (HF.out _).mono ?_; rintro e w' ⟨rfl, rfl⟩) | (go_at_call 65; refine (HA.out _ (HT.out.below HX0.out.bel)).mono ?_; rintro e w1 ⟨rfl, hb⟩; have HB1 : Hid (Below w.heap.size w w1) := Below.step HX0.out.bel hb; clear hb) | go_in)
            go_ret
            exact ⟨by simp, HB1.out⟩
      · have q4 : (v == 1) = false := by simp [h4]
        rw [if_neg h4]
        rcases hg with rfl | ⟨rfl, q1⟩
        all_goals
          go_enter Tryd.func32, Tryd.ntmps32
          go_wp2_with (first | (go_at_call 64; refine (HF.out _).mono ?_; rintro e w' ⟨rfl, rfl⟩) | go_in)
          go_ret
          exact ⟨by simp, HX0.out.bel⟩
end Go.Proofs.YtmodcbdgnmjkoabDoor
