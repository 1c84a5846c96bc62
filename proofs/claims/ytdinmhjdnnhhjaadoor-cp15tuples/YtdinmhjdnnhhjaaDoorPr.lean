import Derived.Test.YtdinmhjdnnhhjaaDoorPc
namespace Go.Proofs.YtdinmhjdnnhhjaaDoor
open Go.RowKit
set_option linter.unusedVariables false
set_option linter.unusedSimpArgs false
set_option maxRecDepth 100000 in
set_option maxHeartbeats 4000000 in
theorem read_any (b : Nat) (t : Tu) (priv : Bool) (F : List Nat) (w : World) (hF : Fi 63 w b F) (hT : TR w) :
    Calls Tryd.prog 18 #[.pointer (some ⟨b, 0, none⟩), .agg #[.int .i64 t.a, .int .i64 t.b, .int .i64 t.c, .int .i64 t.d], .bool priv] w fun e w' => e = .returned (.tuple #[.int .u32 ((rdF F t priv).1 : Nat), .int .i64 ((rdF F t priv).2 : Nat)]) ∧ Below w.heap.size w w' := by
  have HT : Hid (TR (w.alloc (.cells ([.int .i64 t.a, .int .i64 t.b, .int .i64 t.c, .int .i64 t.d]).toArray 27))) := hT.below (below_new _ _)
  have HF : Hid (Fi 63 (w.alloc (.cells ([.int .i64 t.a, .int .i64 t.b, .int .i64 t.c, .int .i64 t.d]).toArray 27)) b F) := hF.below (below_new _ _)
  have HB : Hid (Below w.heap.size w (w.alloc (.cells ([.int .i64 t.a, .int .i64 t.b, .int .i64 t.c, .int .i64 t.d]).toArray 27))) := below_new _ _
  have hreg := fun w h => register_any t w h
  clear hF hT
  cases hr : regOf t with
  | none =>
    rw [hr] at hreg
    have HR : Hid (rdF F t priv = (0, 80)) := by show _ = _; simp [rdF, hr]
    rw [HR.out]
    clear hr
    go_enter Tryd.func18, Tryd.ntmps18
    go_wp2_with (go_at_call 12; refine (hreg _ HT.out).mono ?_; clear hreg; rintro e w1 ⟨rfl, hb⟩; have HB2 : Hid (Below w.heap.size w w1) := Below.step HB.out hb; clear hb)
    go_ret2
    exact ⟨rfl, HB2.out⟩
  | some r =>
    rw [hr] at hreg
    have hr13 := regOf_lt hr
    have hi : (r : Int) < 13 := by omega
    cases priv
    · have HR : Hid (rdF F t false = (0, 81)) := by show _ = _; simp [rdF, hr]
      rw [HR.out]
      clear hr
      go_enter Tryd.func18, Tryd.ntmps18
      go_wp2_with (go_at_call 12; refine (hreg _ HT.out).mono ?_; clear hreg; rintro e w1 ⟨rfl, hb⟩; have HB2 : Hid (Below w.heap.size w w1) := Below.step HB.out hb; clear hb)
      go_ret2
      exact ⟨rfl, HB2.out⟩
    · have HR : Hid (rdF F t true = (F.getD r 0, 0)) := by show _ = _; simp [rdF, hr]
      rw [HR.out]
      clear hr
      go_enter Tryd.func18, Tryd.ntmps18
      go_wp2_with (go_at_call 12; refine (hreg _ HT.out).mono ?_; clear hreg; rintro e w1 ⟨rfl, hb⟩; have HB2 : Hid (Below w.heap.size w w1) := Below.step HB.out hb; have hf := HF.out.below hb; have hc := hf.cell hr13; have hlt := hf.lt; clear hb hf)
      go_ret2
      exact ⟨rfl, HB2.out⟩
end Go.Proofs.YtdinmhjdnnhhjaaDoor
