import Derived.Test.YtbbnodhpafiplaaDoorDe
import Derived.Test.YtbbnodhpafiplaaDoorMN
import Derived.Test.YtbbnodhpafiplaaDoorPm
namespace Go.Proofs.YtbbnodhpafiplaaDoor
open Go.RowKit
set_option linter.unusedVariables false
set_option linter.unusedSimpArgs false

set_option maxRecDepth 100000 in
set_option maxHeartbeats 4000000 in
theorem encode_lo (k b d ap bt : Int) (s g x : Bool) (w : World) (h : k ≤ 0) :
    Calls Tryd.prog 62 #[.agg #[.int .i64 k, .int .u64 b, .int .i64 d, .bool s, .int .i64 ap, .int .u32 bt, .bool g, .bool x]] w fun e w' => e = .returned (.int .u32 0) ∧ Below w.heap.size w w' := by
  have h1 : decide (k ≤ 0) = true := decide_eq_true h
  go_enter Tryd.func62, Tryd.ntmps62
  go_wp2
  go_ret
  exact ⟨rfl, (by (repeat (first | apply below_drew | refine Below.alloc ?_ (by simp) _)); exact Below.refl _ _)⟩
set_option maxRecDepth 100000 in
set_option maxHeartbeats 4000000 in
theorem encode_hi (k b d ap bt : Int) (s g x : Bool) (w : World) (h : 6 ≤ k) :
    Calls Tryd.prog 62 #[.agg #[.int .i64 k, .int .u64 b, .int .i64 d, .bool s, .int .i64 ap, .int .u32 bt, .bool g, .bool x]] w fun e w' => e = .returned (.int .u32 0) ∧ Below w.heap.size w w' := by
  have h1 : decide (k ≤ 0) = false := decide_eq_false (by omega)
  have h2 : decide (6 ≤ k) = true := decide_eq_true h
  go_enter Tryd.func62, Tryd.ntmps62
  go_wp2
  go_ret
  exact ⟨rfl, (by (repeat (first | apply below_drew | refine Below.alloc ?_ (by simp) _)); exact Below.refl _ _)⟩
theorem encode_any (e : Ent) (w : World) (ht : TE w) (hO : Ok e) : Calls Tryd.prog 62 #[.agg #[.int .i64 e.kind, .int .u64 e.base, .int .i64 e.dom, .bool e.ns, .int .i64 e.ap, .int .u32 e.bits, .bool e.ng, .bool e.xn]] w fun r w' => r = .returned (.int .u32 (E e)) ∧ Below w.heap.size w w' := by
  obtain ⟨hb, hbt⟩ := hO
  obtain ⟨k, b, d, s, ap, bt, g, x⟩ := e
  simp only at hb hbt
  by_cases h0 : k ≤ 0
  · rw [E0 _ (by simp only; omega)]
    exact encode_lo k b d ap bt s g x w h0
  by_cases h6 : 6 ≤ k
  · rw [E0 _ (by simp only; omega)]
    exact encode_hi k b d ap bt s g x w h6
  rcases (show k = 1 ∨ k = 2 ∨ k = 3 ∨ k = 4 ∨ k = 5 by omega) with rfl | rfl | rfl | rfl | rfl
  · exact encode_1 b d ap bt s g x w ht hb hbt
  · exact encode_2 b d ap bt s g x w ht hb hbt
  · exact encode_3 b d ap bt s g x w ht hb hbt
  · exact encode_4 b d ap bt s g x w ht hb hbt
  · exact encode_5 b d ap bt s g x w ht hb hbt

theorem Below.step {w w1 w2 : World} (h1 : Below w.heap.size w w1) (h2 : Below w1.heap.size w1 w2) : Below w.heap.size w w2 := h1.trans (h2.mono h1.size)

end Go.Proofs.YtbbnodhpafiplaaDoor
