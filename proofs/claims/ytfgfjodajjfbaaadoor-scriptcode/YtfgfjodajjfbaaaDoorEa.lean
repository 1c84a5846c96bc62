import Derived.Test.YtfgfjodajjfbaaaDoorSa
namespace Go.Proofs.YtfgfjodajjfbaaaDoor
open Go.RowKit
set_option linter.unusedVariables false
set_option maxRecDepth 100000 in
theorem valueOf_p (p : Addr) (w : World) : (callFunc 36 #[.iface 70 (.pointer (some p))]).run Tryd.prog w = .ok (.value (.agg #[.pointer (some ⟨9, 70, none⟩), .pointer (some ⟨w.heap.size, 0, none⟩), .int .u64 150])) (w.alloc (.cells #[.pointer (some p)] 70)) := by kernel_rfl
set_option maxRecDepth 100000 in
theorem valueOf_w (x y : Int) (w : World) : (callFunc 36 #[.iface 51 (.agg #[.int .i64 x, .int .i64 y])]).run Tryd.prog w = .ok (.value (.agg #[.pointer (some ⟨9, 51, none⟩), .pointer (some ⟨w.heap.size, 0, none⟩), .int .u64 153])) (w.alloc (.cells #[.int .i64 x, .int .i64 y] 51)) := by kernel_rfl
set_option maxRecDepth 100000 in
theorem typeOf_p (a : Addr) (w : World) : (callFunc 37 #[.agg #[.pointer (some ⟨9, 70, none⟩), .pointer (some a), .int .u64 150]]).run Tryd.prog w = .ok (.value (.iface 94 (.agg #[.pointer (some ⟨9, 70, none⟩)]))) w := by kernel_rfl
set_option maxRecDepth 100000 in
theorem kind_p (w : World) : (callFunc 89 #[.pointer (some ⟨9, 70, none⟩)]).run Tryd.prog w = .ok (.value (.int .u8 22)) w := by kernel_rfl
set_option maxRecDepth 100000 in
theorem kind_w (w : World) : (callFunc 89 #[.pointer (some ⟨9, 51, none⟩)]).run Tryd.prog w = .ok (.value (.int .u8 25)) w := by kernel_rfl
set_option maxRecDepth 100000 in
theorem elem_p (w : World) : (callFunc 99 #[.agg #[.pointer (some ⟨9, 70, none⟩)]]).run Tryd.prog w = .ok (.value (.iface 94 (.agg #[.pointer (some ⟨9, 51, none⟩)]))) w := by kernel_rfl
set_option maxRecDepth 100000 in
theorem impl_w (w : World) : (callFunc 100 #[.agg #[.pointer (some ⟨9, 51, none⟩)], .iface 94 (.agg #[.pointer (some ⟨9, 26, none⟩)])]).run Tryd.prog w = .ok (.value (.bool true)) w := by kernel_rfl
set_option maxRecDepth 100000 in
theorem typeO_w (x y : Int) (w : World) : (callFunc 21 #[.iface 51 (.agg #[.int .i64 x, .int .i64 y])]).run Tryd.prog w = .ok (.value (.iface 94 (.agg #[.pointer (some ⟨9, 51, none⟩)]))) w := by kernel_rfl
set_option maxRecDepth 100000 in
theorem assign_w (w : World) : (callFunc 97 #[.agg #[.pointer (some ⟨9, 51, none⟩)], .iface 94 (.agg #[.pointer (some ⟨9, 51, none⟩)])]).run Tryd.prog w = .ok (.value (.bool true)) w := by kernel_rfl
end Go.Proofs.YtfgfjodajjfbaaaDoor
