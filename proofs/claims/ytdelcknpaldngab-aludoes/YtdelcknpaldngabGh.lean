import Derived.Test.YtdelcknpaldngabGg
namespace Go.Proofs.Ytdelcknpaldngab
open Go.RowKit
set_option linter.unusedVariables false
set_option linter.unusedSimpArgs false
/-- The sixteen operations, as an array. -/
def opsA (b1 b3 : Nat) : Array Value := #[.nilFunc, .func (.func 43) #[] #[.pointer (some ⟨b3, 0, none⟩)], .func (.func 44) #[] #[.pointer (some ⟨b3, 0, none⟩)], .func (.func 46) #[] #[], .func (.func 47) #[] #[], .func (.func 45) #[] #[], .func (.func 48) #[] #[.pointer (some ⟨b1, 0, none⟩)], .func (.func 49) #[] #[.pointer (some ⟨b1, 0, none⟩)], .func (.func 50) #[] #[.pointer (some ⟨b1, 0, none⟩)], .func (.func 43) #[] #[.pointer (some ⟨b3, 0, none⟩)], .func (.func 44) #[] #[.pointer (some ⟨b3, 0, none⟩)], .func (.func 46) #[] #[], .func (.func 45) #[] #[], .func (.func 51) #[] #[.pointer (some ⟨b3, 0, none⟩)], .func (.func 52) #[] #[.pointer (some ⟨b3, 0, none⟩)], .func (.func 53) #[] #[.pointer (some ⟨b3, 0, none⟩)], .func (.func 54) #[] #[.pointer (some ⟨b3, 0, none⟩)]]
/-- What the closures stand on. -/
def OpS (w : World) (b0 b1 b3 : Nat) (sh fn fz fc fv : Bool) : Prop := Bl w b0 4 [.bool sh] ∧ Bl w b1 28 [.bool fn, .bool fz, .bool fc, .bool fv] ∧ Bl w b3 67 [.func (.func 42) #[] #[.pointer (some ⟨b0, 0, none⟩), .pointer (some ⟨b1, 0, none⟩)]]
theorem OpS.below {w w' : World} {b0 b1 b3 : Nat} {sh fn fz fc fv : Bool} (h : OpS w b0 b1 b3 sh fn fz fc fv) (hb : Below w.heap.size w w') : OpS w' b0 b1 b3 sh fn fz fc fv := ⟨h.1.below hb, h.2.1.below hb, h.2.2.below hb⟩
theorem ops_world (w : World) (o : Array Value) (sh fn fz fc fv : Bool) :
    OpS ((((w.alloc (.cells #[.bool sh] 4)).alloc (.cells #[.bool fn, .bool fz, .bool fc, .bool fv] 28)).alloc (.cells o 60)).alloc (.cells #[.func (.func 42) #[] #[.pointer (some ⟨w.heap.size, 0, none⟩), .pointer (some ⟨w.heap.size + 1, 0, none⟩)]] 67)) w.heap.size (w.heap.size + 1) (w.heap.size + 1 + 1 + 1) sh fn fz fc fv ∧ Below w.heap.size w ((((w.alloc (.cells #[.bool sh] 4)).alloc (.cells #[.bool fn, .bool fz, .bool fc, .bool fv] 28)).alloc (.cells o 60)).alloc (.cells #[.func (.func 42) #[] #[.pointer (some ⟨w.heap.size, 0, none⟩), .pointer (some ⟨w.heap.size + 1, 0, none⟩)]] 67)) := by
  have h0 := Bl.new w 4 [.bool sh]
  have h1 := Bl.new (w.alloc (.cells #[.bool sh] 4)) 28 [.bool fn, .bool fz, .bool fc, .bool fv]
  have h2 := Bl.new (((w.alloc (.cells #[.bool sh] 4)).alloc (.cells #[.bool fn, .bool fz, .bool fc, .bool fv] 28)).alloc (.cells o 60)) 67 [.func (.func 42) #[] #[.pointer (some ⟨w.heap.size, 0, none⟩), .pointer (some ⟨w.heap.size + 1, 0, none⟩)]]
  simp at h1 h2
  exact ⟨⟨((h0.alloc _).alloc _).alloc _, (h1.alloc _).alloc _, h2⟩, Below.step (Below.step (Below.step (below_new _ _) (below_new _ _)) (below_new _ _)) (below_new _ _)⟩
set_option maxRecDepth 100000 in
set_option maxHeartbeats 1000000 in
theorem gops_any (sh fn fz fc fv : Bool) (w : World) :
    Calls Try.prog 38 #[.bool sh, .agg #[.bool fn, .bool fz, .bool fc, .bool fv]] w fun e w' => e = .returned (.agg (opsA (w.heap.size + 1) (w.heap.size + 1 + 1 + 1))) ∧ OpS w' w.heap.size (w.heap.size + 1) (w.heap.size + 1 + 1 + 1) sh fn fz fc fv ∧ Below w.heap.size w w' := by
  have HW : Hid (∀ o, OpS ((((w.alloc (.cells #[.bool sh] 4)).alloc (.cells #[.bool fn, .bool fz, .bool fc, .bool fv] 28)).alloc (.cells o 60)).alloc (.cells #[.func (.func 42) #[] #[.pointer (some ⟨w.heap.size, 0, none⟩), .pointer (some ⟨w.heap.size + 1, 0, none⟩)]] 67)) w.heap.size (w.heap.size + 1) (w.heap.size + 1 + 1 + 1) sh fn fz fc fv ∧ Below w.heap.size w ((((w.alloc (.cells #[.bool sh] 4)).alloc (.cells #[.bool fn, .bool fz, .bool fc, .bool fv] 28)).alloc (.cells o 60)).alloc (.cells #[.func (.func 42) #[] #[.pointer (some ⟨w.heap.size, 0, none⟩), .pointer (some ⟨w.heap.size + 1, 0, none⟩)]] 67))) := fun o => ops_world w o sh fn fz fc fv
  go_enter Try.func38, Try.ntmps38
  go_wp2
  have h := HW.out (opsA (w.heap.size + 1) (w.heap.size + 1 + 1 + 1))
  exact bodyPost_ret (v := .agg (opsA (w.heap.size + 1) (w.heap.size + 1 + 1 + 1))) (by simp [results, Try.results38, go_sem, opsA]) rfl ⟨rfl, h⟩
end Go.Proofs.Ytdelcknpaldngab
