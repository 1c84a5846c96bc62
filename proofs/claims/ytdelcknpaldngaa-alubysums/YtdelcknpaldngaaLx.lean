import Derived.Test.YtdelcknpaldngaaLe
namespace Go.Proofs.Ytdelcknpaldngaa
open Go.RowKit
set_option linter.unusedVariables false
set_option linter.unusedSimpArgs false
theorem suW_comm (x y : Int) (c : Bool) : suW x y c = suW y x c := by unfold suW; rw [Int.add_comm x y]
theorem suF_comm (x y : Int) (c : Bool) : suF x y c = suF y x c := by unfold suF; rw [suW_comm x y c, Int.add_comm x y, Int.add_comm (sgn x) (sgn y)]
theorem xor_ones (b : Int) (b0 : 0 ≤ b) (b1 : b < 4294967296) : bits .xor .u32 b 4294967295 = nt b := by
  rw [u32_xor b 4294967295 b0 b1 (by decide) (by decide), Nat.xor_comm, show (4294967295 : Int).toNat = 4294967295 by decide, xor_all _ (by omega)]
  unfold nt
  omega
theorem and_nt (a b : Int) (a0 : 0 ≤ a) (a1 : a < 4294967296) (b0 : 0 ≤ b) (b1 : b < 4294967296) : bits .and .u32 a (nt b) = bits .andNot .u32 a b := by
  have hr := nt_range b b0 b1
  rw [u32_and a (nt b) a0 a1 hr.1 hr.2, u32_andNot a b a0 a1 b0 b1, show (nt b).toNat = 4294967295 - b.toNat by unfold nt; omega]
/-- Boxes of flags. -/
def Bxs (w : World) (K : List (Nat × Fl)) : Prop := ∀ p ∈ K, Bl w p.1 24 [.bool p.2.n, .bool p.2.z, .bool p.2.c, .bool p.2.v]
theorem Bxs.below {w w' : World} {K : List (Nat × Fl)} (h : Bxs w K) (hb : Below w.heap.size w w') : Bxs w' K := fun p hp => (h p hp).below hb
theorem Bxs.push {w : World} {K : List (Nat × Fl)} (h : Bxs w K) (f : Fl) : Bxs (w.alloc (.cells #[.bool f.n, .bool f.z, .bool f.c, .bool f.v] 24)) ((w.heap.size, f) :: K) := by
  intro p hp
  rcases List.mem_cons.1 hp with rfl | hp
  · exact Bl.new w 24 [.bool f.n, .bool f.z, .bool f.c, .bool f.v]
  · exact (h p hp).alloc _
theorem Bxs.at {w : World} {K : List (Nat × Fl)} (h : Bxs w K) (b : Nat) (f : Fl) (hm : (b, f) ∈ K) : w.cell? ⟨b, 0, none⟩ = some (.bool f.n) ∧ w.cell? ⟨b, 1, none⟩ = some (.bool f.z) ∧ w.cell? ⟨b, 2, none⟩ = some (.bool f.c) ∧ w.cell? ⟨b, 3, none⟩ = some (.bool f.v) := (h (b, f) hm).four.1
end Go.Proofs.Ytdelcknpaldngaa
