import Derived.Test.YtdinmhjdnnhhjaaDoorBn
import Derived.Deep.CutRange
namespace Go.Proofs.YtdinmhjdnnhhjaaDoor
open Go.RowKit
set_option linter.unusedVariables false
set_option linter.unusedSimpArgs false
theorem keptL_at (r : Nat) (h : r < 13) : ([.int .u32 805306369, .int .u32 4294967168, .int .u32 4294950912, .int .u32 55, .int .u32 4294967295, .int .u32 7423, .int .u32 5135, .int .u32 4294967295, .int .u32 4294967295, .int .u32 4294967295, .int .u32 4279238655, .int .u32 4294967295, .int .u32 4294967295] : List Value)[r]? = some (.int .u32 ((rg r).kept : Nat)) := by
  rcases upto13 r h with rfl | rfl | rfl | rfl | rfl | rfl | rfl | rfl | rfl | rfl | rfl | rfl | rfl <;> rfl
set_option maxRecDepth 100000 in
theorem rkept_any (r : Nat) (w : World) (hr : r < 13) : Calls Tryd.prog 38 #[.int .i64 (r : Int)] w fun e w' => e = .returned (.int .u32 ((rg r).kept : Nat)) ∧ Below w.heap.size w w' := by
  have hb := Bl.new w 28 [.int .u32 805306369, .int .u32 4294967168, .int .u32 4294950912, .int .u32 55, .int .u32 4294967295, .int .u32 7423, .int .u32 5135, .int .u32 4294967295, .int .u32 4294967295, .int .u32 4294967295, .int .u32 4279238655, .int .u32 4294967295, .int .u32 4294967295]
  have hc := (hb.cell r).trans (keptL_at r hr)
  have hi : (r : Int) < 13 := by omega
  have HB : Hid (∀ o, Below w.heap.size w (w.alloc o)) := fun o => below_new _ _
  clear hb
  generalize (rg r).kept = K at *
  go_enter Tryd.func38, Tryd.ntmps38
  go_wp2
  go_ret
  exact ⟨rfl, HB.out _⟩
/-- The world in which the rows of the reference's tuples lie. -/
def tupW (w : World) : World := (((((((((((((((w.alloc (.cells #[.int .i64 0, .int .i64 0, .int .i64 0, .int .i64 0] 27)).alloc (.cells #[.int .i64 1, .int .i64 0, .int .i64 0, .int .i64 0] 3)).alloc (.cells #[.int .i64 2, .int .i64 0, .int .i64 0, .int .i64 0] 3)).alloc (.cells #[.int .i64 2, .int .i64 0, .int .i64 0, .int .i64 1] 3)).alloc (.cells #[.int .i64 2, .int .i64 0, .int .i64 0, .int .i64 2] 3)).alloc (.cells #[.int .i64 3, .int .i64 0, .int .i64 0, .int .i64 0] 3)).alloc (.cells #[.int .i64 5, .int .i64 0, .int .i64 0, .int .i64 0] 3)).alloc (.cells #[.int .i64 5, .int .i64 0, .int .i64 0, .int .i64 1] 3)).alloc (.cells #[.int .i64 6, .int .i64 0, .int .i64 0, .int .i64 0] 3)).alloc (.cells #[.int .i64 6, .int .i64 0, .int .i64 0, .int .i64 2] 3)).alloc (.cells #[.int .i64 7, .int .i64 0, .int .i64 4, .int .i64 0] 3)).alloc (.cells #[.int .i64 10, .int .i64 0, .int .i64 2, .int .i64 0] 3)).alloc (.cells #[.int .i64 10, .int .i64 0, .int .i64 2, .int .i64 1] 3)).alloc (.cells #[.int .i64 13, .int .i64 0, .int .i64 0, .int .i64 1] 3)).alloc (.cells #[.slice (some ⟨w.heap.size + 1, 0, none⟩) 4 4, .slice (some ⟨w.heap.size + 1 + 1, 0, none⟩) 4 4, .slice (some ⟨w.heap.size + 1 + 1 + 1, 0, none⟩) 4 4, .slice (some ⟨w.heap.size + 1 + 1 + 1 + 1, 0, none⟩) 4 4, .slice (some ⟨w.heap.size + 1 + 1 + 1 + 1 + 1, 0, none⟩) 4 4, .slice (some ⟨w.heap.size + 1 + 1 + 1 + 1 + 1 + 1, 0, none⟩) 4 4, .slice (some ⟨w.heap.size + 1 + 1 + 1 + 1 + 1 + 1 + 1, 0, none⟩) 4 4, .slice (some ⟨w.heap.size + 1 + 1 + 1 + 1 + 1 + 1 + 1 + 1, 0, none⟩) 4 4, .slice (some ⟨w.heap.size + 1 + 1 + 1 + 1 + 1 + 1 + 1 + 1 + 1, 0, none⟩) 4 4, .slice (some ⟨w.heap.size + 1 + 1 + 1 + 1 + 1 + 1 + 1 + 1 + 1 + 1, 0, none⟩) 4 4, .slice (some ⟨w.heap.size + 1 + 1 + 1 + 1 + 1 + 1 + 1 + 1 + 1 + 1 + 1, 0, none⟩) 4 4, .slice (some ⟨w.heap.size + 1 + 1 + 1 + 1 + 1 + 1 + 1 + 1 + 1 + 1 + 1 + 1, 0, none⟩) 4 4, .slice (some ⟨w.heap.size + 1 + 1 + 1 + 1 + 1 + 1 + 1 + 1 + 1 + 1 + 1 + 1 + 1, 0, none⟩) 4 4] 93))
theorem tupW_below (w : World) : Below w.heap.size w (tupW w) := by
  unfold tupW
  iterate 15 (refine Below.alloc ?_ (by simp; try omega) _)
  exact Below.refl _ _
theorem bl_new' (v : World) (t : TypeId) (l : List Value) (n : Nat) (h : v.heap.size = n) : Bl (v.alloc (.cells l.toArray t)) n t l := by
  subst h
  exact Bl.new v t l
theorem tupW_res (w : World) : Bl (tupW w) w.heap.size 27 [.int .i64 0, .int .i64 0, .int .i64 0, .int .i64 0] := by
  unfold tupW
  iterate 14 (refine Bl.below ?_ (below_new _ _))
  exact Bl.new _ _ _
theorem tupW_rows (w : World) : Bl (tupW w) (w.heap.size + 14) 93 [.slice (some ⟨w.heap.size + 1, 0, none⟩) 4 4, .slice (some ⟨w.heap.size + 1 + 1, 0, none⟩) 4 4, .slice (some ⟨w.heap.size + 1 + 1 + 1, 0, none⟩) 4 4, .slice (some ⟨w.heap.size + 1 + 1 + 1 + 1, 0, none⟩) 4 4, .slice (some ⟨w.heap.size + 1 + 1 + 1 + 1 + 1, 0, none⟩) 4 4, .slice (some ⟨w.heap.size + 1 + 1 + 1 + 1 + 1 + 1, 0, none⟩) 4 4, .slice (some ⟨w.heap.size + 1 + 1 + 1 + 1 + 1 + 1 + 1, 0, none⟩) 4 4, .slice (some ⟨w.heap.size + 1 + 1 + 1 + 1 + 1 + 1 + 1 + 1, 0, none⟩) 4 4, .slice (some ⟨w.heap.size + 1 + 1 + 1 + 1 + 1 + 1 + 1 + 1 + 1, 0, none⟩) 4 4, .slice (some ⟨w.heap.size + 1 + 1 + 1 + 1 + 1 + 1 + 1 + 1 + 1 + 1, 0, none⟩) 4 4, .slice (some ⟨w.heap.size + 1 + 1 + 1 + 1 + 1 + 1 + 1 + 1 + 1 + 1 + 1, 0, none⟩) 4 4, .slice (some ⟨w.heap.size + 1 + 1 + 1 + 1 + 1 + 1 + 1 + 1 + 1 + 1 + 1 + 1, 0, none⟩) 4 4, .slice (some ⟨w.heap.size + 1 + 1 + 1 + 1 + 1 + 1 + 1 + 1 + 1 + 1 + 1 + 1 + 1, 0, none⟩) 4 4] := by
  unfold tupW
  exact bl_new' _ 93 _ _ (by simp)
theorem tupW_0 (w : World) : Bl (tupW w) (w.heap.size + 1) 3 [.int .i64 1, .int .i64 0, .int .i64 0, .int .i64 0] := by
  unfold tupW
  iterate 13 (refine Bl.below ?_ (below_new _ _))
  exact bl_new' _ 3 _ _ (by simp)
theorem tupW_1 (w : World) : Bl (tupW w) (w.heap.size + 2) 3 [.int .i64 2, .int .i64 0, .int .i64 0, .int .i64 0] := by
  unfold tupW
  iterate 12 (refine Bl.below ?_ (below_new _ _))
  exact bl_new' _ 3 _ _ (by simp)
theorem tupW_2 (w : World) : Bl (tupW w) (w.heap.size + 3) 3 [.int .i64 2, .int .i64 0, .int .i64 0, .int .i64 1] := by
  unfold tupW
  iterate 11 (refine Bl.below ?_ (below_new _ _))
  exact bl_new' _ 3 _ _ (by simp)
theorem tupW_3 (w : World) : Bl (tupW w) (w.heap.size + 4) 3 [.int .i64 2, .int .i64 0, .int .i64 0, .int .i64 2] := by
  unfold tupW
  iterate 10 (refine Bl.below ?_ (below_new _ _))
  exact bl_new' _ 3 _ _ (by simp)
theorem tupW_4 (w : World) : Bl (tupW w) (w.heap.size + 5) 3 [.int .i64 3, .int .i64 0, .int .i64 0, .int .i64 0] := by
  unfold tupW
  iterate 9 (refine Bl.below ?_ (below_new _ _))
  exact bl_new' _ 3 _ _ (by simp)
theorem tupW_5 (w : World) : Bl (tupW w) (w.heap.size + 6) 3 [.int .i64 5, .int .i64 0, .int .i64 0, .int .i64 0] := by
  unfold tupW
  iterate 8 (refine Bl.below ?_ (below_new _ _))
  exact bl_new' _ 3 _ _ (by simp)
theorem tupW_6 (w : World) : Bl (tupW w) (w.heap.size + 7) 3 [.int .i64 5, .int .i64 0, .int .i64 0, .int .i64 1] := by
  unfold tupW
  iterate 7 (refine Bl.below ?_ (below_new _ _))
  exact bl_new' _ 3 _ _ (by simp)
theorem tupW_7 (w : World) : Bl (tupW w) (w.heap.size + 8) 3 [.int .i64 6, .int .i64 0, .int .i64 0, .int .i64 0] := by
  unfold tupW
  iterate 6 (refine Bl.below ?_ (below_new _ _))
  exact bl_new' _ 3 _ _ (by simp)
theorem tupW_8 (w : World) : Bl (tupW w) (w.heap.size + 9) 3 [.int .i64 6, .int .i64 0, .int .i64 0, .int .i64 2] := by
  unfold tupW
  iterate 5 (refine Bl.below ?_ (below_new _ _))
  exact bl_new' _ 3 _ _ (by simp)
theorem tupW_9 (w : World) : Bl (tupW w) (w.heap.size + 10) 3 [.int .i64 7, .int .i64 0, .int .i64 4, .int .i64 0] := by
  unfold tupW
  iterate 4 (refine Bl.below ?_ (below_new _ _))
  exact bl_new' _ 3 _ _ (by simp)
theorem tupW_10 (w : World) : Bl (tupW w) (w.heap.size + 11) 3 [.int .i64 10, .int .i64 0, .int .i64 2, .int .i64 0] := by
  unfold tupW
  iterate 3 (refine Bl.below ?_ (below_new _ _))
  exact bl_new' _ 3 _ _ (by simp)
theorem tupW_11 (w : World) : Bl (tupW w) (w.heap.size + 12) 3 [.int .i64 10, .int .i64 0, .int .i64 2, .int .i64 1] := by
  unfold tupW
  iterate 2 (refine Bl.below ?_ (below_new _ _))
  exact bl_new' _ 3 _ _ (by simp)
theorem tupW_12 (w : World) : Bl (tupW w) (w.heap.size + 13) 3 [.int .i64 13, .int .i64 0, .int .i64 0, .int .i64 1] := by
  unfold tupW
  iterate 1 (refine Bl.below ?_ (below_new _ _))
  exact bl_new' _ 3 _ _ (by simp)
theorem tupW_row (w : World) (r : Nat) (hr : r < 13) : Bl (tupW w) (w.heap.size + (r + 1)) 3 ([.int .i64 ((rg r).t).a, .int .i64 ((rg r).t).b, .int .i64 ((rg r).t).c, .int .i64 ((rg r).t).d]) := by
  rcases upto13 r hr with rfl | rfl | rfl | rfl | rfl | rfl | rfl | rfl | rfl | rfl | rfl | rfl | rfl
  · exact tupW_0 w
  · exact tupW_1 w
  · exact tupW_2 w
  · exact tupW_3 w
  · exact tupW_4 w
  · exact tupW_5 w
  · exact tupW_6 w
  · exact tupW_7 w
  · exact tupW_8 w
  · exact tupW_9 w
  · exact tupW_10 w
  · exact tupW_11 w
  · exact tupW_12 w
theorem slice_at (n r : Nat) (hr : r < 13) (h : r < ([.slice (some ⟨n + 1, 0, none⟩) 4 4, .slice (some ⟨n + 1 + 1, 0, none⟩) 4 4, .slice (some ⟨n + 1 + 1 + 1, 0, none⟩) 4 4, .slice (some ⟨n + 1 + 1 + 1 + 1, 0, none⟩) 4 4, .slice (some ⟨n + 1 + 1 + 1 + 1 + 1, 0, none⟩) 4 4, .slice (some ⟨n + 1 + 1 + 1 + 1 + 1 + 1, 0, none⟩) 4 4, .slice (some ⟨n + 1 + 1 + 1 + 1 + 1 + 1 + 1, 0, none⟩) 4 4, .slice (some ⟨n + 1 + 1 + 1 + 1 + 1 + 1 + 1 + 1, 0, none⟩) 4 4, .slice (some ⟨n + 1 + 1 + 1 + 1 + 1 + 1 + 1 + 1 + 1, 0, none⟩) 4 4, .slice (some ⟨n + 1 + 1 + 1 + 1 + 1 + 1 + 1 + 1 + 1 + 1, 0, none⟩) 4 4, .slice (some ⟨n + 1 + 1 + 1 + 1 + 1 + 1 + 1 + 1 + 1 + 1 + 1, 0, none⟩) 4 4, .slice (some ⟨n + 1 + 1 + 1 + 1 + 1 + 1 + 1 + 1 + 1 + 1 + 1 + 1, 0, none⟩) 4 4, .slice (some ⟨n + 1 + 1 + 1 + 1 + 1 + 1 + 1 + 1 + 1 + 1 + 1 + 1 + 1, 0, none⟩) 4 4] : List Value).length) : ([.slice (some ⟨n + 1, 0, none⟩) 4 4, .slice (some ⟨n + 1 + 1, 0, none⟩) 4 4, .slice (some ⟨n + 1 + 1 + 1, 0, none⟩) 4 4, .slice (some ⟨n + 1 + 1 + 1 + 1, 0, none⟩) 4 4, .slice (some ⟨n + 1 + 1 + 1 + 1 + 1, 0, none⟩) 4 4, .slice (some ⟨n + 1 + 1 + 1 + 1 + 1 + 1, 0, none⟩) 4 4, .slice (some ⟨n + 1 + 1 + 1 + 1 + 1 + 1 + 1, 0, none⟩) 4 4, .slice (some ⟨n + 1 + 1 + 1 + 1 + 1 + 1 + 1 + 1, 0, none⟩) 4 4, .slice (some ⟨n + 1 + 1 + 1 + 1 + 1 + 1 + 1 + 1 + 1, 0, none⟩) 4 4, .slice (some ⟨n + 1 + 1 + 1 + 1 + 1 + 1 + 1 + 1 + 1 + 1, 0, none⟩) 4 4, .slice (some ⟨n + 1 + 1 + 1 + 1 + 1 + 1 + 1 + 1 + 1 + 1 + 1, 0, none⟩) 4 4, .slice (some ⟨n + 1 + 1 + 1 + 1 + 1 + 1 + 1 + 1 + 1 + 1 + 1 + 1, 0, none⟩) 4 4, .slice (some ⟨n + 1 + 1 + 1 + 1 + 1 + 1 + 1 + 1 + 1 + 1 + 1 + 1 + 1, 0, none⟩) 4 4] : List Value)[r]'h = .slice (some ⟨n + (r + 1), 0, none⟩) 4 4 := by
  rcases upto13 r hr with rfl | rfl | rfl | rfl | rfl | rfl | rfl | rfl | rfl | rfl | rfl | rfl | rfl <;> rfl
theorem tupW_slice (w : World) (r : Nat) (hr : r < 13) : (tupW w).cell? ⟨w.heap.size + 14, r, none⟩ = some (.slice (some ⟨w.heap.size + (r + 1), 0, none⟩) 4 4) := by
  rw [(tupW_rows w).cell]
  rcases upto13 r hr with rfl | rfl | rfl | rfl | rfl | rfl | rfl | rfl | rfl | rfl | rfl | rfl | rfl <;> rfl
end Go.Proofs.YtdinmhjdnnhhjaaDoor
