import Derived.Test.YtdelcknpaldngacRc
namespace Go.Proofs.Ytdelcknpaldngac
open Go.RowKit
set_option linter.unusedVariables false
set_option linter.unusedSimpArgs false
set_option maxRecDepth 100000 in
set_option maxHeartbeats 2000000 in
theorem jword_any (f : Fl) (w : World) :
    Calls Try.prog 10 #[.agg #[.bool f.n, .bool f.z, .bool f.c, .bool f.v]] w fun e w' => e = .returned (.int .u32 (wdW f)) ∧ Below w.heap.size w w' := by
  obtain ⟨n, z, c, v⟩ := f
  simp only at *
  have HT : Hid (∀ o (l : List Value) t, Bl ((w.alloc o).alloc (.cells l.toArray t)) (w.heap.size + 1) t l) := fun o l t => by simpa using Bl.new (w.alloc o) t l
  have H3 : Hid (∀ o1 o2, Below w.heap.size w ((w.alloc o1).alloc o2)) := fun o1 o2 => ((Below.refl _ w).alloc (Nat.le_refl _) _).alloc (by simp) _
  go_enter Try.func10, Try.ntmps10
  go_wp2
  have S1 := HT.out (.cells #[.bool n, .bool z, .bool c, .bool v] 28) [.bool v, .bool c, .bool z, .bool n] 4
  have S3 := H3.out (.cells #[.bool n, .bool z, .bool c, .bool v] 28) (.cells #[.bool v, .bool c, .bool z, .bool n] 4)
  clear HT H3
  generalize ((w.alloc _).alloc _) = w2 at S1 S3 ⊢
  generalize w.heap.size + 1 = B at S1 ⊢
  obtain ⟨⟨c0, c1, c2, c3⟩, d0, d1, d2, d3⟩ := S1.four
  clear S1 d0 d1 d2 d3
  have S3 : Hid (Below _ _ _) := S3
  have rv := bI_range v 268435456 (by decide)
  have rc := bI_range c 536870912 (by decide)
  have rz := bI_range z 1073741824 (by decide)
  have rn := bI_range n 2147483648 (by decide)
  have RR : Hid (0 ≤ bI v 268435456 ∧ bI v 268435456 ≤ 268435456 ∧ 0 ≤ bI c 536870912 ∧ bI c 536870912 ≤ 536870912 ∧ 0 ≤ bI z 1073741824 ∧ bI z 1073741824 ≤ 1073741824) := by
    refine ⟨?_, ?_, ?_, ?_, ?_, ?_⟩ <;> omega
  clear rv rc rz rn
  go_loopw [4, 5] (fun a i wr => ∃ (j : Nat), j ≤ 4 ∧ a = .int .u32 (wdP ⟨n, z, c, v⟩ j) ∧ i = .int .i64 j ∧ wr = w2) (fun _ i _ => (4 - intOf i).toNat)
  case atStart => exact ⟨0, by omega, by simp [wdP], rfl, rfl⟩
  case round =>
    obtain ⟨j, h1, rfl, rfl, rfl⟩ := hrel
    rcases (show j = 0 ∨ j = 1 ∨ j = 2 ∨ j = 3 ∨ j = 4 by omega) with rfl | rfl | rfl | rfl | rfl
    · have e : wdP ⟨n, z, c, v⟩ 0 = 0 := by simp [wdP]
      have ho : bits .or .u32 (0) 268435456 = 0 + 268435456 := or_bit 28 _ _ (by decide) (by have := RR.out; omega) (by have := RR.out; omega) (by decide)
      rw [e]
      clear e
      cases v
      · go_wp2_with fail
        go_roundw
        case rel => exact ⟨1, by omega, by simp [wdP, bI], rfl, trivial⟩
        case measure => simp [intOf]
      · go_wp2_with fail
        go_roundw
        case rel => exact ⟨1, by omega, by (try simp [bI] at ho); simp [wdP, bI, ho], rfl, trivial⟩
        case measure => simp [intOf]
    · have e : wdP ⟨n, z, c, v⟩ 1 = bI v 268435456 := by simp [wdP]
      have ho : bits .or .u32 (bI v 268435456) 536870912 = bI v 268435456 + 536870912 := or_bit 29 _ _ (by decide) (by have := RR.out; omega) (by have := RR.out; omega) (by decide)
      rw [e]
      clear e
      cases c
      · go_wp2_with fail
        go_roundw
        case rel => exact ⟨2, by omega, by simp [wdP, bI], rfl, trivial⟩
        case measure => simp [intOf]
      · go_wp2_with fail
        go_roundw
        case rel => exact ⟨2, by omega, by (try simp [bI] at ho); simp [wdP, bI, ho], rfl, trivial⟩
        case measure => simp [intOf]
    · have e : wdP ⟨n, z, c, v⟩ 2 = bI v 268435456 + bI c 536870912 := by simp [wdP]
      have ho : bits .or .u32 (bI v 268435456 + bI c 536870912) 1073741824 = bI v 268435456 + bI c 536870912 + 1073741824 := or_bit 30 _ _ (by decide) (by have := RR.out; omega) (by have := RR.out; omega) (by decide)
      rw [e]
      clear e
      cases z
      · go_wp2_with fail
        go_roundw
        case rel => exact ⟨3, by omega, by simp [wdP, bI], rfl, trivial⟩
        case measure => simp [intOf]
      · go_wp2_with fail
        go_roundw
        case rel => exact ⟨3, by omega, by (try simp [bI] at ho); simp [wdP, bI, ho], rfl, trivial⟩
        case measure => simp [intOf]
    · have e : wdP ⟨n, z, c, v⟩ 3 = bI v 268435456 + bI c 536870912 + bI z 1073741824 := by simp [wdP]
      have ho : bits .or .u32 (bI v 268435456 + bI c 536870912 + bI z 1073741824) 2147483648 = bI v 268435456 + bI c 536870912 + bI z 1073741824 + 2147483648 := or_bit 31 _ _ (by decide) (by have := RR.out; omega) (by have := RR.out; omega) (by decide)
      rw [e]
      clear e
      cases n
      · go_wp2_with fail
        go_roundw
        case rel => exact ⟨4, by omega, by simp [wdP, bI], rfl, trivial⟩
        case measure => simp [intOf]
      · go_wp2_with fail
        go_roundw
        case rel => exact ⟨4, by omega, by (try simp [bI] at ho); simp [wdP, bI, ho], rfl, trivial⟩
        case measure => simp [intOf]
    · have e : wdP ⟨n, z, c, v⟩ 4 = wdW ⟨n, z, c, v⟩ := by simp [wdP, wdW]
      rw [e]
      go_wp2_with fail
      go_ret
      exact ⟨rfl, S3.out⟩
end Go.Proofs.Ytdelcknpaldngac
