import Derived.Test.YtfgfjodajjfbaaaDoorEc
import Derived.Defers
import Derived.Recover
namespace Go.Proofs.YtfgfjodajjfbaaaDoor
open Go.RowKit
set_option linter.unusedVariables false
/-- find's deferred function, where nothing panics. -/
theorem catch_idle (p q : Addr) (w : World) :
    CallsD Tryd.prog 23 #[.pointer (some p), .pointer (some q)] .returning w fun e u' w' => e = .returned (.tuple #[]) ∧ u' = .returning ∧ w' = w := by
  refine callsD_of_wpS Tryd.func23 rfl fun c₀ cs hu => ?_
  apply wpS_seq
  apply wpS_region
  simp [wpOpsS, go_sem, recoverD, hu, Tryd.ntmps23, Exit.thenS]
  refine wpS_cond (t := false) (by simp [Act.eval, Array.replicate]) ?_
  simp only [Bool.false_eq_true, if_false]
  refine wpS_of_wp (wp_skip ?_)
  cases c₀
  simp_all [bodyPostS, results, Tryd.results23]
set_option maxRecDepth 100000 in
set_option maxHeartbeats 2000000 in
/-- script.find at an error of the package's. -/
theorem find_any (x y : Int) (w : World) (he : w.cell? ⟨1, 0, none⟩ = some (.iface 94 (.agg #[.pointer (some ⟨9, 26, none⟩)]))) :
    Calls Tryd.prog 13 #[.iface 51 (.agg #[.int .i64 x, .int .i64 y])] w fun r w' => r = .returned (.agg #[.int .i64 x, .int .i64 y]) ∧ Below w.heap.size w w' := by
  have hmf : ∀ (fn : Fn) (first cap : Array Value) (w : World), (Instr.makeFunc fn first cap).run Tryd.prog w = .ok (.func fn first cap) w := fun _ _ _ _ => rfl
  have b1 := below_new w (.cells #[.int .i64 0, .int .i64 0] 51)
  have b2 := Below.step b1 (below_new _ (.cells #[.int .i64 (-1), .int .i64 (-1)] 51))
  have b3 := Below.step b2 (below_new _ (.cells #[.int .i64 (-1), .int .i64 (-1)] 51))
  have x0 := (Bl.new w 51 [.int .i64 0, .int .i64 0]).below (Below.step (below_new _ (.cells #[.int .i64 (-1), .int .i64 (-1)] 51)) (below_new _ (.cells #[.int .i64 (-1), .int .i64 (-1)] 51)))
  have x2 := Bl.new ((w.alloc (.cells #[.int .i64 0, .int .i64 0] 51)).alloc (.cells #[.int .i64 (-1), .int .i64 (-1)] 51)) 51 [.int .i64 (-1), .int .i64 (-1)]
  rw [show ((w.alloc (.cells #[.int .i64 0, .int .i64 0] 51)).alloc (.cells #[.int .i64 (-1), .int .i64 (-1)] 51)).heap.size = w.heap.size + 1 + 1 by simp] at x2
  have HE : Hid _ := cell_keep he b3
  have H : Hid _ := And.intro b3 (And.intro x0 x2)
  clear b1 b2 b3 x0 x2 he
  go_enter_defers Tryd.func13, Tryd.ntmps13
  go_wp2_with (go_at_call 24; refine (as_any x y _ _ H.out.2.2 HE.out).mono ?_; rintro r w1 ⟨rfl, g1, g2⟩; have x0 := H.out.2.1.turn g2 (by omega); have p0 := g1.cell 0; have p1 := g1.cell 1; have q0 := x0.cell 0; have q1 := x0.cell 1; have f0 := x0.frozen 0; have f1 := x0.frozen 1; simp only [List.getElem?_cons_zero, List.getElem?_cons_succ] at p0 p1 q0 q1)
  have xe : Bl ((w1.setCell ⟨w.heap.size, 0, none⟩ (.int .i64 x)).setCell ⟨w.heap.size, 1, none⟩ (.int .i64 y)) w.heap.size 51 [.int .i64 x, .int .i64 y] := (x0.set 0 _).set 1 _
  have z0 := xe.cell 0
  have z1 := xe.cell 1
  simp only [List.getElem?_cons_zero, List.getElem?_cons_succ] at z0 z1
  have hB : Below w.heap.size w ((w1.setCell ⟨w.heap.size, 0, none⟩ (.int .i64 x)).setCell ⟨w.heap.size, 1, none⟩ (.int .i64 y)) := by
    have t : Turn (fun b => w.heap.size ≤ b) w w1 := Turn.trans (S := fun b => w.heap.size ≤ b) (Turn.below H.out.1) g2 (fun b hb => .inl (by subst hb; omega))
    exact Turn.to (Turn.setCell (p := ⟨w.heap.size, 1, none⟩) (Turn.setCell (p := ⟨w.heap.size, 0, none⟩) t (.inl (Nat.le_refl _)) _) (.inl (Nat.le_refl _)) _) (fun _ h => h) (Nat.le_refl _)
  refine leaves_cons (f := 23) (args := #[.pointer (some ⟨w.heap.size + 1, 0, none⟩), .pointer (some ⟨w.heap.size, 0, none⟩)]) (by simp) (by simp [go_sem]) ?_
  refine (catch_idle _ _ _).mono ?_
  rintro e u' w'' ⟨rfl, rfl, rfl⟩
  simp [Leaves, settle, results, Tryd.results13, go_sem, z0, z1]
  exact hB
set_option maxRecDepth 100000 in
set_option maxHeartbeats 2000000 in
/-- script.Code at an error of the package's. -/
theorem code_any (x y : Int) (w : World) (he : w.cell? ⟨1, 0, none⟩ = some (.iface 94 (.agg #[.pointer (some ⟨9, 26, none⟩)]))) :
    Calls Tryd.prog 7 #[.iface 51 (.agg #[.int .i64 x, .int .i64 y])] w fun r w' => r = .returned (.tuple #[.int .i64 x, .int .i64 y]) ∧ Below w.heap.size w w' := by
  go_enter Tryd.func7, Tryd.ntmps7
  go_wp2_with (go_at_call 13; refine (find_any x y _ he).mono ?_; rintro r w1 ⟨rfl, b1⟩; have hx := Bl.new w1 51 [.int .i64 x, .int .i64 y]; have p0 := hx.cell 0; have p1 := hx.cell 1; simp only [List.getElem?_cons_zero, List.getElem?_cons_succ] at p0 p1)
  go_region_held3 (fun w' => w'.cell? ⟨w1.heap.size, 0, none⟩ = some (.int .i64 x) ∧ w'.cell? ⟨w1.heap.size, 1, none⟩ = some (.int .i64 y)) (first | go_keep) ((first | fail))
  go_wp2
  go_ret2
  exact ⟨rfl, below_drew (Below.step b1 (below_new _ _))⟩
set_option maxRecDepth 100000 in
/-- script.Code of no error. -/
theorem code_nil (w : World) : Calls Tryd.prog 7 #[.nilIface] w fun r w' => r = .returned (.tuple #[.int .i64 0, .int .i64 (-1)]) ∧ w' = w := by
  go_enter Tryd.func7, Tryd.ntmps7
  go_wp2
  go_ret2
  exact ⟨rfl, rfl⟩
end Go.Proofs.YtfgfjodajjfbaaaDoor
