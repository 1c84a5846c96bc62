import Derived.Test.YtdelcknpaldngabGs
namespace Go.Proofs.Ytdelcknpaldngab
open Go.RowKit
set_option linter.unusedVariables false
set_option linter.unusedSimpArgs false
theorem cI_range (c : Bool) : 0 ≤ cI c ∧ cI c ≤ 1 := by cases c <;> decide
theorem bI_cI (c : Bool) (k : Int) : bI c k = cI c * k := by cases c <;> simp [bI, cI]
theorem word_or (N Z C V : Int) (n0 : 0 ≤ N ∧ N ≤ 1) (z0 : 0 ≤ Z ∧ Z ≤ 1) (c0 : 0 ≤ C ∧ C ≤ 1) (v0 : 0 ≤ V ∧ V ≤ 1) :
    bits .or .u32 (N * 2147483648) (Z * 1073741824) = N * 2147483648 + Z * 1073741824 ∧
    bits .or .u32 (N * 2147483648 + Z * 1073741824) (C * 536870912) = N * 2147483648 + Z * 1073741824 + C * 536870912 ∧
    bits .or .u32 (N * 2147483648 + Z * 1073741824 + C * 536870912) (V * 268435456) = N * 2147483648 + Z * 1073741824 + C * 536870912 + V * 268435456 :=
  ⟨or_low 31 _ _ N (by rw [show (2 : Int) ^ 31 = 2147483648 by decide]; omega) n0.1 (by omega) (by omega) (by rw [show (2 : Int) ^ 31 = 2147483648 by decide]; omega) (by decide),
   or_low 30 _ _ (N * 2 + Z) (by rw [show (2 : Int) ^ 30 = 1073741824 by decide]; omega) (by omega) (by omega) (by omega) (by rw [show (2 : Int) ^ 30 = 1073741824 by decide]; omega) (by decide),
   or_low 29 _ _ (N * 4 + Z * 2 + C) (by rw [show (2 : Int) ^ 29 = 536870912 by decide]; omega) (by omega) (by omega) (by omega) (by rw [show (2 : Int) ^ 29 = 536870912 by decide]; omega) (by decide)⟩
set_option maxRecDepth 100000 in
set_option maxHeartbeats 1000000 in
theorem gword_any (f : Fl) (w : World) :
    Calls Try.prog 25 #[.agg #[.bool f.n, .bool f.z, .bool f.c, .bool f.v]] w fun e w' => e = .returned (.int .u32 (wdW f)) ∧ Below w.heap.size w w' := by
  obtain ⟨n, z, c, v⟩ := f
  have HB : Hid (∀ b w, Calls Try.prog 26 #[.bool b] w fun e w' => e = .returned (.int .u32 (cI b)) ∧ w' = w) := fun b w => gbit_any b w
  have hn := cI_range n
  have hz := cI_range z
  have hc := cI_range c
  have hv := cI_range v
  obtain ⟨o1, o2, o3⟩ := word_or (cI n) (cI z) (cI c) (cI v) hn hz hc hv
  have HV : Hid (cI n * 2147483648 + cI z * 1073741824 + cI c * 536870912 + cI v * 268435456 = wdW ⟨n, z, c, v⟩) := by
    show _ = wdW _
    unfold wdW
    rw [bI_cI, bI_cI, bI_cI, bI_cI]
    dsimp only
    omega
  have t1 : cI n * 2147483648 % 4294967296 = cI n * 2147483648 := by omega
  have t2 : cI z * 1073741824 % 4294967296 = cI z * 1073741824 := by omega
  have t3 : cI c * 536870912 % 4294967296 = cI c * 536870912 := by omega
  have t4 : cI v * 268435456 % 4294967296 = cI v * 268435456 := by omega
  have u1 : IntKind.u32.wrap (cI n * 2147483648) = cI n * 2147483648 := by rw [IntKind.wrap_u32']; omega
  have u2 : IntKind.u32.wrap (cI z * 1073741824) = cI z * 1073741824 := by rw [IntKind.wrap_u32']; omega
  have u3 : IntKind.u32.wrap (cI c * 536870912) = cI c * 536870912 := by rw [IntKind.wrap_u32']; omega
  have u4 : IntKind.u32.wrap (cI v * 268435456) = cI v * 268435456 := by rw [IntKind.wrap_u32']; omega
  have HN : Hid (∀ o, Below w.heap.size w (w.alloc o)) := below_new w
  have HT : Hid (∀ (l : List Value) t, Bl (w.alloc (.cells l.toArray t)) w.heap.size t l) := fun l t => Bl.new w t l
  go_enter Try.func25, Try.ntmps25
  go_wp2_with fail
  have S1 := HT.out [.bool n, .bool z, .bool c, .bool v] 28
  have S3 : Hid (Below _ _ _) := HN.out (.cells #[.bool n, .bool z, .bool c, .bool v] 28)
  clear HT HN
  generalize (w.alloc _) = w2 at S1 S3 ⊢
  obtain ⟨⟨c0, c1, c2, c3⟩, -⟩ := S1.four
  clear S1
  go_quiet ((go_at_call 26; exact Calls.quiet_of_same (HB.out _ _)))
  go_wp2_with fail
  go_ret
  exact ⟨by rw [← HV.out]; rfl, below_drewN S3.out _⟩
end Go.Proofs.Ytdelcknpaldngab
