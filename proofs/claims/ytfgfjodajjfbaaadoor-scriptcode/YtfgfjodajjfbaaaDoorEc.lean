import Derived.Test.YtfgfjodajjfbaaaDoorEb
namespace Go.Proofs.YtfgfjodajjfbaaaDoor
open Go.RowKit
set_option linter.unusedVariables false
theorem below2' (w : World) (a b : Obj) : Below w.heap.size w ((w.alloc a).alloc b) := Below.step (below_new _ _) (below_new _ _)
set_option maxRecDepth 100000 in
set_option maxHeartbeats 2000000 in
/-- errors.as at an error of the package's. -/
theorem as_in (x y : Int) (f b : Nat) (tv : Value) (w : World) (hf : Bl w f 51 [.int .i64 (-1), .int .i64 (-1)]) (hb : w.cell? ⟨b, 0, none⟩ = some (.pointer (some ⟨f, 0, none⟩))) :
    Calls Tryd.prog 39 #[.iface 51 (.agg #[.int .i64 x, .int .i64 y]), tv, .agg #[.pointer (some ⟨9, 70, none⟩), .pointer (some ⟨b, 0, none⟩), .int .u64 150], .iface 94 (.agg #[.pointer (some ⟨9, 51, none⟩)])] w fun r w' => r = .returned (.bool true) ∧ Bl w' f 51 [.int .i64 x, .int .i64 y] ∧ TA f w w' := by
  have hlt := hf.lt
  have h1 := typeO_w x y
  have h2 := assign_w
  have h3 := valueOf_w x y
  have hB := below_new w (.cells #[.pointer (some ⟨9, 70, none⟩), .pointer (some ⟨b, 0, none⟩), .int .u64 150] 107)
  have hb2 := cell_keep hb hB
  have h4 := elemV_p b f _ hb2
  have hB2 := Below.step hB (below_new _ (.cells #[.int .i64 x, .int .i64 y] 51))
  have hx := Bl.new (w.alloc (.cells #[.pointer (some ⟨9, 70, none⟩), .pointer (some ⟨b, 0, none⟩), .int .u64 150] 107)) 51 [.int .i64 x, .int .i64 y]
  have h5 := set_w _ f x y _ (hx.cell 0) (hx.cell 1) (hf.below hB2)
  rw [show (w.alloc (.cells #[.pointer (some ⟨9, 70, none⟩), .pointer (some ⟨b, 0, none⟩), .int .u64 150] 107)).heap.size = w.heap.size + 1 by simp] at h5
  have HF : Hid _ := hf
  clear hB hB2 hx hb hb2 hf
  go_enter Tryd.func39, Tryd.ntmps39
  go_wp2
  go_loopw [0, 8, 9, 10, 11, 12, 14, 15] (fun er r _ _ _ _ _ _ wr => er = .iface 51 (.agg #[.int .i64 x, .int .i64 y]) ∧ r = .bool false ∧ wr = w.alloc (.cells #[.pointer (some ⟨9, 70, none⟩), .pointer (some ⟨b, 0, none⟩), .int .u64 150] 107)) (fun _ _ _ _ _ _ _ _ _ => 0)
  case atStart => exact ⟨rfl, rfl, rfl⟩
  case round =>
    obtain ⟨rfl, rfl, rfl⟩ := hrel
    go_wp2
    go_ret
    exact ⟨rfl, ((Bl.set HF.out 0 _).set 1 _).below (below2' _ _ _), Turn.alloc (Turn.alloc (TA.set (TA.set (Turn.refl _ _) 0 _) 1 _) _) _⟩

set_option maxRecDepth 100000 in
set_option maxHeartbeats 2000000 in
/-- errors.As at an error of the package's. -/
theorem as_any (x y : Int) (f : Nat) (w : World) (hf : Bl w f 51 [.int .i64 (-1), .int .i64 (-1)]) (he : w.cell? ⟨1, 0, none⟩ = some (.iface 94 (.agg #[.pointer (some ⟨9, 26, none⟩)]))) :
    Calls Tryd.prog 24 #[.iface 51 (.agg #[.int .i64 x, .int .i64 y]), .iface 70 (.pointer (some ⟨f, 0, none⟩))] w fun r w' => r = .returned (.bool true) ∧ Bl w' f 51 [.int .i64 x, .int .i64 y] ∧ TA f w w' := by
  have hlt := hf.lt
  have hel := cell_lt he
  have h1 := valueOf_p ⟨f, 0, none⟩
  have h2 := typeOf_p
  have h3 := kind_p
  have h4 := kind_w
  have h5 := elem_p
  have h6 := impl_w
  have hB := Below.step (below_new w (.cells #[.pointer (some ⟨f, 0, none⟩)] 70)) (below_new _ (.cells #[.pointer (some ⟨9, 70, none⟩), .pointer (some ⟨w.heap.size, 0, none⟩), .int .u64 150] 107))
  have hx := (Bl.new w 70 [.pointer (some ⟨f, 0, none⟩)]).below (below_new _ (.cells #[.pointer (some ⟨9, 70, none⟩), .pointer (some ⟨w.heap.size, 0, none⟩), .int .u64 150] 107))
  have h7 := isNil_p w.heap.size f _ (hx.cell 0)
  have HA : Hid _ := And.intro (hf.below hB) (hx.cell 0)
  have he2 := cell_keep he hB
  have HB : Hid _ := hB
  clear hB hx
  go_enter Tryd.func24, Tryd.ntmps24
  go_wp2_with (go_at_call 39; refine (as_in x y f w.heap.size _ _ HA.out.1 HA.out.2).mono ?_; rintro r w1 ⟨rfl, g1, g2⟩)
  go_ret
  exact ⟨rfl, g1, (TA.of HB.out).then g2⟩
end Go.Proofs.YtfgfjodajjfbaaaDoor
