import Derived.Test.YtfgfjodajjfbaaaDoorEd
import Derived.Stop.Asserts
namespace Go.Proofs.YtfgfjodajjfbaaaDoor
open Go.RowKit
set_option linter.unusedVariables false
set_option maxRecDepth 100000 in
theorem typeO_e (p : Addr) (w : World) : (callFunc 21 #[.iface 53 (.pointer (some p))]).run Tryd.prog w = .ok (.value (.iface 94 (.agg #[.pointer (some ⟨9, 53, none⟩)]))) w := by kernel_rfl
set_option maxRecDepth 100000 in
theorem assign_e (w : World) : (callFunc 97 #[.agg #[.pointer (some ⟨9, 53, none⟩)], .iface 94 (.agg #[.pointer (some ⟨9, 51, none⟩)])]).run Tryd.prog w = .ok (.value (.bool false)) w := by kernel_rfl
set_option maxRecDepth 100000 in
theorem ta_iAs (p : Addr) (w : World) : (Instr.typeAssert (.iface 53 (.pointer (some p))) 26 157 true).run Tryd.prog w = .ok (.tuple #[.nilIface, .bool false]) w := run_typeAssert_lacksB Tryd.underlying157 (by kernel_rfl) (by kernel_rfl) _ _ w
set_option maxRecDepth 100000 in
theorem ta_iUnw (p : Addr) (w : World) : (Instr.typeAssert (.iface 53 (.pointer (some p))) 26 99 true).run Tryd.prog w = .ok (.tuple #[.nilIface, .bool false]) w := run_typeAssert_lacksB Tryd.underlying99 (by kernel_rfl) (by kernel_rfl) _ _ w
set_option maxRecDepth 100000 in
theorem ta_iUnws (p : Addr) (w : World) : (Instr.typeAssert (.iface 53 (.pointer (some p))) 26 101 true).run Tryd.prog w = .ok (.tuple #[.nilIface, .bool false]) w := run_typeAssert_lacksB Tryd.underlying101 (by kernel_rfl) (by kernel_rfl) _ _ w
set_option maxRecDepth 100000 in
set_option maxHeartbeats 2000000 in
/-- errors.as at an error of another package's. -/
theorem as_es (p : Addr) (tv : Value) (b : Nat) (w : World) :
    Calls Tryd.prog 39 #[.iface 53 (.pointer (some p)), tv, .agg #[.pointer (some ⟨9, 70, none⟩), .pointer (some ⟨b, 0, none⟩), .int .u64 150], .iface 94 (.agg #[.pointer (some ⟨9, 51, none⟩)])] w fun r w' => r = .returned (.bool false) ∧ Below w.heap.size w w' := by
  have h1 := typeO_e p
  have h2 := assign_e
  have h3 := ta_iAs p
  have h4 := ta_iUnw p
  have h5 := ta_iUnws p
  go_enter Tryd.func39, Tryd.ntmps39
  go_wp2
  go_loopw [0, 8, 9, 10, 11, 12, 14, 15] (fun er r _ _ _ _ _ _ wr => er = .iface 53 (.pointer (some p)) ∧ r = .bool false ∧ wr = w.alloc (.cells #[.pointer (some ⟨9, 70, none⟩), .pointer (some ⟨b, 0, none⟩), .int .u64 150] 107)) (fun _ _ _ _ _ _ _ _ _ => 0)
  case atStart => exact ⟨rfl, rfl, rfl⟩
  case round =>
    obtain ⟨rfl, rfl, rfl⟩ := hrel
    go_wp2
    go_ret
    exact ⟨rfl, below_new _ _⟩
set_option maxRecDepth 100000 in
set_option maxHeartbeats 2000000 in
/-- errors.As at an error of another package's. -/
theorem As_es (p : Addr) (f : Nat) (w : World) (hf : Bl w f 51 [.int .i64 (-1), .int .i64 (-1)]) (he : w.cell? ⟨1, 0, none⟩ = some (.iface 94 (.agg #[.pointer (some ⟨9, 26, none⟩)]))) :
    Calls Tryd.prog 24 #[.iface 53 (.pointer (some p)), .iface 70 (.pointer (some ⟨f, 0, none⟩))] w fun r w' => r = .returned (.bool false) ∧ Below w.heap.size w w' := by
  have hlt := hf.lt
  have hel := cell_lt he
  have h1 := valueOf_p ⟨f, 0, none⟩
  have h2 := typeOf_p
  have h3 := kind_p
  have h4 := kind_w
  have h5 := elem_p
  have h6 := impl_w
  have hB := Below.step (below_new w (.cells #[.pointer (some ⟨f, 0, none⟩)] 70)) (below_new _ (.cells #[.pointer (some ⟨9, 70, none⟩), .pointer (some ⟨w.heap.size, 0, none⟩), .int .u64 150] 107))
  have hx := (Bl.new w 70 [.pointer (some ⟨f, 0, none⟩)]).below (below_new _ (.cells #[.pointer (some ⟨9, 70, none⟩), .pointer (some ⟨w.heap.size, 0, none⟩), .int .u64 150] 107))
  have h7 := isNil_p w.heap.size f _ (hx.cell 0)
  have he2 := cell_keep he hB
  have HB : Hid _ := hB
  clear hB hx
  go_enter Tryd.func24, Tryd.ntmps24
  go_wp2_with (go_at_call 39; refine (as_es p _ w.heap.size _).mono ?_; rintro r w1 ⟨rfl, g1⟩)
  go_ret
  exact ⟨rfl, Below.step HB.out g1⟩
set_option maxRecDepth 100000 in
set_option maxHeartbeats 2000000 in
/-- script.find at an error of another package's. -/
theorem find_es (p : Addr) (w : World) (he : w.cell? ⟨1, 0, none⟩ = some (.iface 94 (.agg #[.pointer (some ⟨9, 26, none⟩)]))) :
    Calls Tryd.prog 13 #[.iface 53 (.pointer (some p))] w fun r w' => r = .returned (.agg #[.int .i64 (-1), .int .i64 (-1)]) ∧ Below w.heap.size w w' := by
  have hmf : ∀ (fn : Fn) (first cap : Array Value) (w : World), (Instr.makeFunc fn first cap).run Tryd.prog w = .ok (.func fn first cap) w := fun _ _ _ _ => rfl
  have b1 := below_new w (.cells #[.int .i64 0, .int .i64 0] 51)
  have b2 := Below.step b1 (below_new _ (.cells #[.int .i64 (-1), .int .i64 (-1)] 51))
  have b3 := Below.step b2 (below_new _ (.cells #[.int .i64 (-1), .int .i64 (-1)] 51))
  have x0 := (Bl.new w 51 [.int .i64 0, .int .i64 0]).below (Below.step (below_new _ (.cells #[.int .i64 (-1), .int .i64 (-1)] 51)) (below_new _ (.cells #[.int .i64 (-1), .int .i64 (-1)] 51)))
  have x2 := Bl.new ((w.alloc (.cells #[.int .i64 0, .int .i64 0] 51)).alloc (.cells #[.int .i64 (-1), .int .i64 (-1)] 51)) 51 [.int .i64 (-1), .int .i64 (-1)]
  rw [show ((w.alloc (.cells #[.int .i64 0, .int .i64 0] 51)).alloc (.cells #[.int .i64 (-1), .int .i64 (-1)] 51)).heap.size = w.heap.size + 1 + 1 by simp] at x2
  have HE : Hid _ := cell_keep he b3
  have H : Hid _ := And.intro b3 (And.intro x0 x2)
  clear b1 b2 b3 x0 x2 he
  go_enter_defers Tryd.func13, Tryd.ntmps13
  go_wp2_with (go_at_call 24; refine (As_es p _ _ H.out.2.2 HE.out).mono ?_; rintro r w1 ⟨rfl, g2⟩; have x0 := H.out.2.1.below g2; have g1 := H.out.2.2.below g2; have p0 := g1.cell 0; have p1 := g1.cell 1; have q0 := x0.cell 0; have q1 := x0.cell 1; have f0 := x0.frozen 0; have f1 := x0.frozen 1; simp only [List.getElem?_cons_zero, List.getElem?_cons_succ] at p0 p1 q0 q1)
  have xe : Bl ((w1.setCell ⟨w.heap.size, 0, none⟩ (.int .i64 (-1))).setCell ⟨w.heap.size, 1, none⟩ (.int .i64 (-1))) w.heap.size 51 [.int .i64 (-1), .int .i64 (-1)] := (x0.set 0 _).set 1 _
  have z0 := xe.cell 0
  have z1 := xe.cell 1
  simp only [List.getElem?_cons_zero, List.getElem?_cons_succ] at z0 z1
  have hB : Below w.heap.size w ((w1.setCell ⟨w.heap.size, 0, none⟩ (.int .i64 (-1))).setCell ⟨w.heap.size, 1, none⟩ (.int .i64 (-1))) := by
    have t : TA w.heap.size w w1 := TA.of (Below.step H.out.1 g2)
    exact Turn.to ((t.set 0 _).set 1 _) (fun _ h => Nat.le_of_eq h.symm) (Nat.le_refl _)
  refine leaves_cons (f := 23) (args := #[.pointer (some ⟨w.heap.size + 1, 0, none⟩), .pointer (some ⟨w.heap.size, 0, none⟩)]) (by simp) (by simp [go_sem]) ?_
  refine (catch_idle _ _ _).mono ?_
  rintro e u' w'' ⟨rfl, rfl, rfl⟩
  simp [Leaves, settle, results, Tryd.results13, go_sem, z0, z1]
  exact hB
set_option maxRecDepth 100000 in
set_option maxHeartbeats 2000000 in
/-- script.Code at an error of another package's. -/
theorem code_es (p : Addr) (w : World) (he : w.cell? ⟨1, 0, none⟩ = some (.iface 94 (.agg #[.pointer (some ⟨9, 26, none⟩)]))) :
    Calls Tryd.prog 7 #[.iface 53 (.pointer (some p))] w fun r w' => r = .returned (.tuple #[.int .i64 (-1), .int .i64 (-1)]) ∧ Below w.heap.size w w' := by
  go_enter Tryd.func7, Tryd.ntmps7
  go_wp2_with (go_at_call 13; refine (find_es p _ he).mono ?_; rintro r w1 ⟨rfl, b1⟩; have hx := Bl.new w1 51 [.int .i64 (-1), .int .i64 (-1)]; have p0 := hx.cell 0; have p1 := hx.cell 1; simp only [List.getElem?_cons_zero, List.getElem?_cons_succ] at p0 p1)
  go_region_held3 (fun w' => w'.cell? ⟨w1.heap.size, 0, none⟩ = some (.int .i64 (-1)) ∧ w'.cell? ⟨w1.heap.size, 1, none⟩ = some (.int .i64 (-1))) (first | go_keep) ((first | fail))
  go_wp2
  go_ret2
  exact ⟨rfl, below_drew (Below.step b1 (below_new _ _))⟩
set_option maxRecDepth 100000 in
/-- errors.New. -/
theorem new_any (s : ByteArray) (w : World) : Calls Tryd.prog 8 #[.string s] w fun r w' => r = .returned (.iface 53 (.pointer (some ⟨w.heap.size, 0, none⟩))) ∧ Below w.heap.size w w' := by
  go_enter Tryd.func8, Tryd.ntmps8
  go_wp2
  go_ret
  exact ⟨rfl, below_new _ _⟩
end Go.Proofs.YtfgfjodajjfbaaaDoor
