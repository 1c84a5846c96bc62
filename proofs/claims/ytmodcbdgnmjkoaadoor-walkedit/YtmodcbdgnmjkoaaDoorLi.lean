import Derived.Test.YtmodcbdgnmjkoaaDoorLh
import Derived.Laws.BitsAllLaws
namespace Go.Proofs.YtmodcbdgnmjkoaaDoor
open Go.RowKit
open Mm (Turn gr PM RM valV errV Byts setV)
set_option linter.unusedVariables false
set_option linter.unusedSimpArgs false
theorem not20 (va : Int) (h : 0 ≤ va ∧ va < 4294967296) : bits .andNot .u32 va 1048575 = va / 1048576 * 1048576 := by
  obtain ⟨v, rfl⟩ := Int.eq_ofNat_of_zero_le h.1
  rw [show (1048575 : Int) = ((1048575 : Nat) : Int) from rfl, u32_andNot_nat v 1048575 (by omega) (by omega)]
  have e : v &&& (4294967295 - 1048575) = v / 1048576 * 1048576 := by
    have h1 : (4294967295 - 1048575 : Nat) = 4095 * 2 ^ 20 := by decide
    have h2 : v = v / 1048576 * 2 ^ 20 + v % 1048576 := by omega
    apply Nat.eq_of_testBit_eq
    intro i
    rw [h1, Nat.testBit_and, Nat.testBit_mul_two_pow, show v / 1048576 * 1048576 = (v / 1048576) * 2 ^ 20 by omega, Nat.testBit_mul_two_pow]
    by_cases hi : 20 ≤ i
    · simp only [hi, decide_true, Bool.true_and]
      rw [show v / 1048576 = v / 2 ^ 20 by rfl, Nat.testBit_div_two_pow, show i - 20 + 20 = i by omega]
      by_cases h3 : i < 32
      · have : Nat.testBit 4095 (i - 20) = true := by
          rw [show (4095 : Nat) = 2 ^ 12 - 1 by decide, Nat.testBit_two_pow_sub_one]
          simp; omega
        rw [this, Bool.and_true]
      · have : v.testBit i = false := Nat.testBit_lt_two_pow (Nat.lt_of_lt_of_le (show v < 2 ^ 32 by omega) (Nat.pow_le_pow_right (by omega) (by omega)))
        rw [this]; simp
    · simp [hi]
  rw [e]
  omega
/-- A memory that is edited; boxes that are no part of it. -/
structure EK (W wr : World) (S : Nat → Prop) (c : Ctx) (q : Pt) (x y p N : Nat) (m : Nat → Int) : Prop where
  pm : PM wr S p N m
  lo : ∀ b, S b → W.heap.size ≤ b
  tl : ∀ b, tbl b → b < W.heap.size
  bel : Below W.heap.size W wr
  C : Bx wr S x 26 [.bool c.on, .bool c.tre, .bool c.afe, .int .i64 c.n, .bool c.pd0, .bool c.pd1, .int .u64 c.b0, .int .u64 c.b1, .int .u32 c.dacr, .int .u32 c.prrr, .int .u32 c.nmrr, .int .i64 c.asid]
  Q : Bx wr S y 28 [.int .u64 q.pa, .int .u32 q.w]
  tab : TW wr
section
variable {W wr wn : World} {S : Nat → Prop} {c : Ctx} {q : Pt} {x y p N : Nat} {m : Nat → Int}
theorem EK.below (h : EK W wr S c q x y p N m) (hb : Below wr.heap.size wr wn) : EK W wn S c q x y p N m :=
  ⟨h.pm.keep (S' := fun _ => False) (Turn.below hb) (fun _ _ h => h), h.lo, h.tl, Below.step h.bel hb, h.C.below hb, h.Q.below hb, h.tab.below hb⟩
theorem Bx.turn {b : Nat} {t : TypeId} {l : List Value} (h : Bx wr S b t l) (T : Turn S wr wn) : Bx wn (gr S wr wn) b t l :=
  Bx.call (H := 0) h (T.mono (fun x _ hx => ⟨hx, Nat.zero_le _⟩))
theorem EK.put (h : EK W wr S c q x y p N m) (a v : Int) (ha : 0 ≤ a ∧ a < 18446744073709551616) (hv : 0 ≤ v ∧ v < 4294967296) :
    Calls Tryd.prog 13 #[.pointer (some ⟨p, 0, none⟩), .int .u64 a, .int .u32 v] wr fun e w1 => e = .returned (.int .i64 (errV N a 4)) ∧ EK W w1 (gr S wr w1) c q x y p N (putM N m a v) ∧ Turn S wr w1 := by
  have hc := Mm.setWord_any wr S p N m a.toNat v h.pm (by omega) hv.1 hv.2
  rw [Int.toNat_of_nonneg ha.1] at hc
  refine hc.mono ?_
  rintro e w1 ⟨rfl, g1, T1⟩
  have b1 : Below W.heap.size W w1 := h.bel.trans (T1.to h.lo h.bel.size)
  refine ⟨rfl, ⟨g1, ?_, h.tl, b1, h.C.turn T1, h.Q.turn T1, h.tab.turn T1 (fun b hb hs => by have := h.tl b hb; have := h.lo b hs; omega)⟩, T1⟩
  rintro b (hb | ⟨hb, _⟩)
  · exact h.lo b hb
  · have := h.bel.size; omega
theorem EK.walk (h : EK W wr S c q x y p N m) (hc : c.Ok) (va : Int) (hv : 0 ≤ va ∧ va < 4294967296) :
    Calls Tryd.prog 11 #[.iface 30 (.pointer (some ⟨p, 0, none⟩)), .agg #[.bool c.on, .bool c.tre, .bool c.afe, .int .i64 c.n, .bool c.pd0, .bool c.pd1, .int .u64 c.b0, .int .u64 c.b1, .int .u32 c.dacr, .int .u32 c.prrr, .int .u32 c.nmrr, .int .i64 c.asid], .int .u32 va] wr fun e w' => e = .returned (.tuple #[.agg #[.int .i64 ((wk (ramMo N m) c va).1).size, .int .u32 ((wk (ramMo N m) c va).1).va, .int .u64 ((wk (ramMo N m) c va).1).pa, .int .i64 ((wk (ramMo N m) c va).1).dom, .int .i64 ((wk (ramMo N m) c va).1).ap, .int .u32 ((wk (ramMo N m) c va).1).bits, .bool ((wk (ramMo N m) c va).1).ng, .bool ((wk (ramMo N m) c va).1).xn], .agg #[.int .i64 ((wk (ramMo N m) c va).2).k, .int .i64 ((wk (ramMo N m) c va).2).l, .int .i64 ((wk (ramMo N m) c va).2).d]]) ∧ Below wr.heap.size wr w' :=
  walk_pure c va wr (.inl ⟨p, N, m, rfl, rfl, h.pm⟩) h.tab hc hv
theorem EK.reads (h : EK W wr S c q x y p N m) (hc : c.Ok) (va : Int) (hv : 0 ≤ va ∧ va < 4294967296) :
    Calls Tryd.prog 12 #[.iface 30 (.pointer (some ⟨p, 0, none⟩)), .agg #[.bool c.on, .bool c.tre, .bool c.afe, .int .i64 c.n, .bool c.pd0, .bool c.pd1, .int .u64 c.b0, .int .u64 c.b1, .int .u32 c.dacr, .int .u32 c.prrr, .int .u32 c.nmrr, .int .i64 c.asid], .int .u32 va] wr fun e w' => ∃ v, e = .returned v ∧ Usl wr.heap.size w' v (rdL (ramMo N m) c va) ∧ Below wr.heap.size wr w' :=
  reads_own c va wr (.inl ⟨p, N, m, rfl, rfl, h.pm⟩) h.tab hc hv
end
set_option maxRecDepth 100000 in
set_option maxHeartbeats 4000000 in
theorem section_any {W wr : World} {S : Nat → Prop} {c : Ctx} {q : Pt} {x y p N : Nat} {m : Nat → Int} (h : EK W wr S c q x y p N m) (hc : c.Ok) (va : Int) (hv : 0 ≤ va ∧ va < 4294967296) (hw : wk (ramMo N m) c va = (⟨3, va / 1048576 * 1048576, 0, 0, 3, 0, false, false⟩, fZ)) :
    Calls Tryd.prog 14 #[.pointer (some ⟨p, 0, none⟩), .agg #[.bool c.on, .bool c.tre, .bool c.afe, .int .i64 c.n, .bool c.pd0, .bool c.pd1, .int .u64 c.b0, .int .u64 c.b1, .int .u32 c.dacr, .int .u32 c.prrr, .int .u32 c.nmrr, .int .i64 c.asid], .int .u32 va] wr fun e w' => e = .returned (.bool true) ∧ Below wr.heap.size wr w' := by
  have HB := hidW (below_new wr (.cells #[.bool c.on, .bool c.tre, .bool c.afe, .int .i64 c.n, .bool c.pd0, .bool c.pd1, .int .u64 c.b0, .int .u64 c.b1, .int .u32 c.dacr, .int .u32 c.prrr, .int .u32 c.nmrr, .int .i64 c.asid] 26))
  have HC := hidW ((h.below (below_new wr (.cells #[.bool c.on, .bool c.tre, .bool c.afe, .int .i64 c.n, .bool c.pd0, .bool c.pd1, .int .u64 c.b0, .int .u64 c.b1, .int .u32 c.dacr, .int .u32 c.prrr, .int .u32 c.nmrr, .int .i64 c.asid] 26))).walk hc va hv)
  rw [hw] at HC
  have hn := not20 va hv
  have eq : ∀ w, (Op.equalIn 10000 35 (.agg #[.int .i64 3, .int .u32 (va / 1048576 * 1048576), .int .u64 0, .int .i64 0, .int .i64 3, .int .u32 0, .bool false, .bool false]) (.agg #[.int .i64 3, .int .u32 (va / 1048576 * 1048576), .int .u64 0, .int .i64 0, .int .i64 3, .int .u32 0, .bool false, .bool false])).run Tryd.prog w = .ok true w := by
    intro w
    have h := eqT ⟨3, va / 1048576 * 1048576, 0, 0, 3, 0, false, false⟩ ⟨3, va / 1048576 * 1048576, 0, 0, 3, 0, false, false⟩ w
    rw [Tra.same_self] at h
    exact h
  clear h hw
  go_enter Tryd.func14, Tryd.ntmps14
  go_wp2_with fail
  go_at_call 11
  refine HC.out.mono ?_
  rintro e w1 ⟨rfl, hb⟩
  have HE := hidW (Below.step (Below.step HB.out hb) (Below.step (below_new w1 (.cells #[.int .i64 3, .int .u32 (va / 1048576 * 1048576), .int .u64 0, .int .i64 0, .int .i64 3, .int .u32 0, .bool false, .bool false] 35)) (below_new _ (.cells #[.int .i64 0, .int .i64 0, .int .i64 0] 37))))
  clear hb HB HC
  simp only [fZ]
  go_wp2
  go_ret
  exact ⟨rfl, HE.out⟩
end Go.Proofs.YtmodcbdgnmjkoaaDoor
