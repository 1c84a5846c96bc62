import Derived.Test.YtdinmhjdnnhhjaaDoorPm
import Derived.Test.YtdinmhjdnnhhjaaDoorPn
import Derived.Test.YtdinmhjdnnhhjaaDoorPq
import Derived.Test.YtdinmhjdnnhhjaaDoorLa
import Derived.Test.YtdinmhjdnnhhjaaDoorLb
namespace Go.Proofs.YtdinmhjdnnhhjaaDoor
open Go.RowKit
set_option linter.unusedVariables false
set_option linter.unusedSimpArgs false
def lF1 : List Nat := [0, 0, 0, 2, 0, 0, 0, 0, 0, 0, 625316, 1155549408, 0]
def lF2 : List Nat := [0, 81792, 0, 2, 0, 0, 0, 0, 0, 0, 625316, 1155549408, 0]
theorem lw1 : wrF fZ ⟨2, 0, 0, 2⟩ true 4294967234 = (aReg, 0, lF1) := by rfl
theorem lw2 : wrF lF1 ⟨2, 0, 0, 0⟩ true 81919 = (aReg, 0, lF2) := by rfl
theorem lw3 : wrF lF2 ⟨8, 0, 7, 1⟩ true 305419896 = (⟨2, 2, 305418240, 120, 0, false, false⟩, 0, lF2) := by rfl
/-- A file of one's own, the table. -/
structure Lx (w wr : World) (n : Nat) (F : List Nat) : Prop where
  bel : Below w.heap.size w wr
  fi : Fi 63 wr n F
  tr : TR wr
  new : w.heap.size ≤ n
theorem Lx.step {w wr wr' : World} {n : Nat} {F : List Nat} (h : Lx w wr n F) (hb : Below wr.heap.size wr wr') : Lx w wr' n F := ⟨Below.step h.bel hb, h.fi.below hb, h.tr.below hb, h.new⟩
theorem Lx.turn {w wr wr' : World} {n : Nat} {F G : List Nat} (h : Lx w wr n F) (hf : Fi 63 wr' n G) (hb : Turn (· = n) wr wr') : Lx w wr' n G := by
  refine ⟨?_, hf, h.tr.turn hb (fun e => (h.tr.ne h.fi) e.symm), h.new⟩
  have := h.new
  exact ((Turn.below (S := (· = n)) h.bel).trans hb (fun x hx => .inl hx)).to (fun x hx => by rw [hx]; exact this) (Nat.le_refl _)
set_option maxRecDepth 100000 in
set_option maxHeartbeats 4000000 in
theorem live_any (w : World) (hT : TR w) : Calls Tryd.prog 9 #[] w fun e w' => e = .returned (.bool true) ∧ Below w.heap.size w w' := by
  have hnew := new_any w hT
  have HT : Hid (TR w) := hT
  have HW1 : Hid (∀ (n : Nat) (w : World), Fi 63 w n fZ → TR w → Calls Tryd.prog 17 #[.pointer (some ⟨n, 0, none⟩), .agg #[.int .i64 2, .int .i64 0, .int .i64 0, .int .i64 2], .bool true, .int .u32 4294967234] w fun e w' => e = .returned (.tuple #[.agg #[.int .i64 1, .int .i64 0, .int .u32 0, .int .i64 0, .int .u32 0, .bool false, .bool false], .int .i64 0]) ∧ Fi 63 w' n lF1 ∧ Turn (· = n) w w') := fun n w h1 h2 => by
    have := write_any n 4294967234 ⟨2, 0, 0, 2⟩ true fZ w h1 h2 (by decide)
    rw [lw1] at this
    exact this
  have HW2 : Hid (∀ (n : Nat) (w : World), Fi 63 w n lF1 → TR w → Calls Tryd.prog 17 #[.pointer (some ⟨n, 0, none⟩), .agg #[.int .i64 2, .int .i64 0, .int .i64 0, .int .i64 0], .bool true, .int .u32 81919] w fun e w' => e = .returned (.tuple #[.agg #[.int .i64 1, .int .i64 0, .int .u32 0, .int .i64 0, .int .u32 0, .bool false, .bool false], .int .i64 0]) ∧ Fi 63 w' n lF2 ∧ Turn (· = n) w w') := fun n w h1 h2 => by
    have := write_any n 81919 ⟨2, 0, 0, 0⟩ true lF1 w h1 h2 (by decide)
    rw [lw2] at this
    exact this
  have HW3 : Hid (∀ (n : Nat) (w : World), Fi 63 w n lF2 → TR w → Calls Tryd.prog 17 #[.pointer (some ⟨n, 0, none⟩), .agg #[.int .i64 8, .int .i64 0, .int .i64 7, .int .i64 1], .bool true, .int .u32 305419896] w fun e w' => e = .returned (.tuple #[.agg #[.int .i64 2, .int .i64 2, .int .u32 305418240, .int .i64 120, .int .u32 0, .bool false, .bool false], .int .i64 0]) ∧ Fi 63 w' n lF2 ∧ Turn (· = n) w w') := fun n w h1 h2 => by
    have := write_any n 305419896 ⟨8, 0, 7, 1⟩ true lF2 w h1 h2 (by decide)
    rw [lw3] at this
    exact this
  have HG : Hid (∀ (n : Nat) (w : World), Fi 63 w n lF2 → Calls Tryd.prog 15 #[.pointer (some ⟨n, 0, none⟩), .int .i64 1] w fun e w' => e = .returned (.tuple #[.int .u32 81792, .int .i64 0]) ∧ w = w') := fun n w h1 => get_any n lF2 1 w h1
  have HC : Hid (∀ (n : Nat) (w : World), Fi 63 w n lF2 → Calls Tryd.prog 19 #[.pointer (some ⟨n, 0, none⟩)] w fun e w' => e = .returned (.agg #[.bool false, .bool false, .bool false, .int .i64 2, .bool false, .bool false, .int .u64 77824, .int .u64 0, .int .u32 0, .int .u32 625316, .int .u32 1155549408, .int .i64 0]) ∧ Below w.heap.size w w') := fun n w h1 => context_any n lF2 w h1
  have heq : ∀ w, (Op.equalIn 10000 36 (.agg #[.int .i64 2, .int .i64 2, .int .u32 305418240, .int .i64 120, .int .u32 0, .bool false, .bool false]) (.agg #[.int .i64 2, .int .i64 2, .int .u32 305418240, .int .i64 120, .int .u32 0, .bool false, .bool false])).run Tryd.prog w = .ok true w := fun w => eqA ⟨2, 2, 305418240, 120, 0, false, false⟩ ⟨2, 2, 305418240, 120, 0, false, false⟩ w
  have hno := no_any
  clear hT
  go_enter Tryd.func9, Tryd.ntmps9
  go_wp2_with (fail)
  go_at_call 8
  refine hnew.mono ?_
  rintro e w1 ⟨rfl, hf, hb⟩
  have HX1 : Hid (Lx w w1 w.heap.size fZ) := ⟨hb, hf, HT.out.below hb, Nat.le_refl _⟩
  clear hf hb HT hnew
  go_wp2_with (fail)
  go_at_call 17
  refine (HW1.out _ _ HX1.out.fi HX1.out.tr).mono ?_
  rintro e w2 ⟨rfl, hf, ht⟩
  have HX2 : Hid (Lx w (w2.alloc (.cells #[.int .i64 1, .int .i64 0, .int .u32 0, .int .i64 0, .int .u32 0, .bool false, .bool false] 36)) w.heap.size lF1) := (HX1.out.turn hf ht).step (below_new _ _)
  have HA : Hid (Bl (w2.alloc (.cells #[.int .i64 1, .int .i64 0, .int .u32 0, .int .i64 0, .int .u32 0, .bool false, .bool false] 36)) w2.heap.size 36 [.int .i64 1, .int .i64 0, .int .u32 0, .int .i64 0, .int .u32 0, .bool false, .bool false]) := Bl.new _ _ _
  have hA0 : ¬ w2.heap.size = w.heap.size := by have := HX1.out.fi.lt; have := ht.size; omega
  clear hf ht HX1 HW1
  go_wp2_with (fail)
  go_at_call 17
  generalize w2.alloc _ = w3 at *
  generalize w2.heap.size = A at *
  refine (HW2.out _ _ HX2.out.fi HX2.out.tr).mono ?_
  rintro e w4 ⟨rfl, hf, ht⟩
  have HX4 : Hid (Lx w (w4.alloc (.cells #[.int .i64 1, .int .i64 0, .int .u32 0, .int .i64 0, .int .u32 0, .bool false, .bool false] 36)) w.heap.size lF2) := (HX2.out.turn hf ht).step (below_new _ _)
  have HA4 : Hid (Bl (w4.alloc (.cells #[.int .i64 1, .int .i64 0, .int .u32 0, .int .i64 0, .int .u32 0, .bool false, .bool false] 36)) A 36 [.int .i64 1, .int .i64 0, .int .u32 0, .int .i64 0, .int .u32 0, .bool false, .bool false]) := (HA.out.turn ht hA0).below (below_new _ _)
  have HB4 : Hid (Bl (w4.alloc (.cells #[.int .i64 1, .int .i64 0, .int .u32 0, .int .i64 0, .int .u32 0, .bool false, .bool false] 36)) w4.heap.size 36 [.int .i64 1, .int .i64 0, .int .u32 0, .int .i64 0, .int .u32 0, .bool false, .bool false]) := Bl.new _ _ _
  have hB0 : ¬ w4.heap.size = w.heap.size := by have := HX2.out.fi.lt; have := ht.size; omega
  clear hf ht HX2 HW2 HA
  go_wp2_with (fail)
  go_at_call 17
  generalize w4.alloc _ = w5 at *
  generalize w4.heap.size = B at *
  refine (HW3.out _ _ HX4.out.fi HX4.out.tr).mono ?_
  rintro e w6 ⟨rfl, hf, ht⟩
  have HX6 : Hid (Lx w (w6.alloc (.cells #[.int .i64 2, .int .i64 2, .int .u32 305418240, .int .i64 120, .int .u32 0, .bool false, .bool false] 36)) w.heap.size lF2) := (HX4.out.turn hf ht).step (below_new _ _)
  have HA6 : Hid (Bl (w6.alloc (.cells #[.int .i64 2, .int .i64 2, .int .u32 305418240, .int .i64 120, .int .u32 0, .bool false, .bool false] 36)) A 36 [.int .i64 1, .int .i64 0, .int .u32 0, .int .i64 0, .int .u32 0, .bool false, .bool false]) := (HA4.out.turn ht hA0).below (below_new _ _)
  have HB6 : Hid (Bl (w6.alloc (.cells #[.int .i64 2, .int .i64 2, .int .u32 305418240, .int .i64 120, .int .u32 0, .bool false, .bool false] 36)) B 36 [.int .i64 1, .int .i64 0, .int .u32 0, .int .i64 0, .int .u32 0, .bool false, .bool false]) := (HB4.out.turn ht hB0).below (below_new _ _)
  have HD6 : Hid (Bl (w6.alloc (.cells #[.int .i64 2, .int .i64 2, .int .u32 305418240, .int .i64 120, .int .u32 0, .bool false, .bool false] 36)) w6.heap.size 36 [.int .i64 2, .int .i64 2, .int .u32 305418240, .int .i64 120, .int .u32 0, .bool false, .bool false]) := Bl.new _ _ _
  clear hf ht HX4 HW3 HA4 HB4
  go_wp2_with (fail)
  go_at_call 15
  generalize w6.alloc _ = w7 at *
  generalize w6.heap.size = D at *
  refine (HG.out _ _ HX6.out.fi).mono ?_
  rintro e w7' ⟨rfl, rfl⟩
  clear HG
  go_wp2_with (fail)
  go_at_call 19
  refine (HC.out _ _ HX6.out.fi).mono ?_
  rintro e w8 ⟨rfl, hb⟩
  have hb2 : Below w7.heap.size w7 (w8.alloc (.cells #[.bool false, .bool false, .bool false, .int .i64 2, .bool false, .bool false, .int .u64 77824, .int .u64 0, .int .u32 0, .int .u32 625316, .int .u32 1155549408, .int .i64 0] 54)) := Below.step hb (below_new _ _)
  have HX9 : Hid (Lx w (w8.alloc (.cells #[.bool false, .bool false, .bool false, .int .i64 2, .bool false, .bool false, .int .u64 77824, .int .u64 0, .int .u32 0, .int .u32 625316, .int .u32 1155549408, .int .i64 0] 54)) w.heap.size lF2) := HX6.out.step hb2
  have a0 := (HA6.out.below hb2).cell
  have b0 := (HB6.out.below hb2).cell
  have d0 := (HD6.out.below hb2).cell
  have c0 := (Bl.new w8 54 [.bool false, .bool false, .bool false, .int .i64 2, .bool false, .bool false, .int .u64 77824, .int .u64 0, .int .u32 0, .int .u32 625316, .int .u32 1155549408, .int .i64 0]).cell
  clear hb hb2 HX6 HA6 HB6 HD6 HC
  go_wp2_with (first | (go_at_call 13; refine (hno _ _).mono ?_; rintro e w' ⟨rfl, rfl⟩) | go_in)
  go_ret
  exact ⟨rfl, HX9.out.bel⟩
end Go.Proofs.YtdinmhjdnnhhjaaDoor
