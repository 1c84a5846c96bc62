import Derived.Test.YtdinmhjdnnhhjaaDoorPa
namespace Go.Proofs.YtdinmhjdnnhhjaaDoor
open Go.RowKit
set_option linter.unusedVariables false
set_option linter.unusedSimpArgs false
set_option maxRecDepth 100000 in
theorem eqT (x y : Tu) (w : World) : (Op.equalIn 10000 27 (.agg #[.int .i64 x.a, .int .i64 x.b, .int .i64 x.c, .int .i64 x.d]) (.agg #[.int .i64 y.a, .int .i64 y.b, .int .i64 y.c, .int .i64 y.d])).run Tryd.prog w = .ok (x.same y) w := by
  obtain ⟨a, b, c, d⟩ := x
  obtain ⟨a', b', c', d'⟩ := y
  go_simp
  simp only [Tu.same]
  repeat' split
  all_goals simp_all
theorem reg_ix (k : Nat) (hk : k < 13) (w : World) : (Instr.index 66 (.agg rgL.toArray) (.int .i64 k)).run Tryd.prog w = .ok (.agg #[.int .i64 (rg k).t.a, .int .i64 (rg k).t.b, .int .i64 (rg k).t.c, .int .i64 (rg k).t.d, .int .u32 ((rg k).kept : Nat), .int .u32 ((rg k).start : Nat), .bool (rg k).ctx]) w := by
  rcases upto13 k hk with rfl | rfl | rfl | rfl | rfl | rfl | rfl | rfl | rfl | rfl | rfl | rfl | rfl <;> simp [Instr.index, run_underlying Tryd.underlying66, asIntOf, go_sem, rgL, lRg, rgV, rg]
/-- The box of the tuple, all else new. -/
structure CX (w wr : World) (t : Tu) : Prop where
  bel : Below w.heap.size w wr
  res : Bl wr w.heap.size 27 ([.int .i64 t.a, .int .i64 t.b, .int .i64 t.c, .int .i64 t.d])
theorem CX.new (w : World) (t : Tu) : CX w (w.alloc (.cells ([.int .i64 t.a, .int .i64 t.b, .int .i64 t.c, .int .i64 t.d]).toArray 27)) t := ⟨below_new _ _, Bl.new _ _ _⟩
theorem CX.alloc {w wr : World} {t : Tu} (h : CX w wr t) (o : Obj) : CX w (wr.alloc o) t := ⟨h.bel.alloc h.bel.size o, h.res.below (below_new _ _)⟩
set_option maxRecDepth 100000 in
set_option maxHeartbeats 4000000 in
theorem register_any (t : Tu) (w : World) (hT : TR w) :
    Calls Tryd.prog 12 #[.agg #[.int .i64 t.a, .int .i64 t.b, .int .i64 t.c, .int .i64 t.d]] w fun e w' => e = .returned (.tuple #[.int .i64 ((regOf t).getD 0 : Nat), .bool (regOf t).isSome]) ∧ Below w.heap.size w w' := by
  have HR : Hid ((w.alloc (.cells ([.int .i64 t.a, .int .i64 t.b, .int .i64 t.c, .int .i64 t.d]).toArray 27)).rangeAt 0 0 rgL) := hT.below (below_new _ _)
  have HX0 : Hid (CX w (w.alloc (.cells ([.int .i64 t.a, .int .i64 t.b, .int .i64 t.c, .int .i64 t.d]).toArray 27)) t) := CX.new w t
  have HI : Hid (∀ (k : Nat) (hk : k < 13) (w : World), (Instr.index 66 (.agg rgL.toArray) (.int .i64 k)).run Tryd.prog w = .ok (.agg #[.int .i64 (rg k).t.a, .int .i64 (rg k).t.b, .int .i64 (rg k).t.c, .int .i64 (rg k).t.d, .int .u32 ((rg k).kept : Nat), .int .u32 ((rg k).start : Nat), .bool (rg k).ctx]) w) := reg_ix
  clear hT
  go_enter Tryd.func12, Tryd.ntmps12
  go_wp2_with (first
    | (guard_target =~ wpList _ _ _ (Oper.mk (some 6) _ _ _ _ _ :: _) _ _; refine wpList_load_mid rfl _ _ rfl 0 0 rfl rgL _ HR.out Tryd.underlying66 rfl (by kernel_rfl) ?_)
    | go_in)
  clear HR
  generalize hFA : rgL.toArray = FA at *
  clear hFA
  go_loopw [7] (fun i wr => ∃ (k : Nat), k ≤ 13 ∧ i = .int .i64 k ∧ regOf t = nR (lRg.drop k) k t ∧ CX w wr t) (fun i _ => 13 - (intOf i).toNat)
  case atStart => exact ⟨0, by omega, rfl, rfl, HX0.out⟩
  case round =>
    obtain ⟨k, hk, rfl, hS, hX⟩ := hrel
    have HS : Hid (regOf t = nR (lRg.drop k) k t) := hS
    have HX : Hid (CX w wr t) := hX
    clear hS hX HX0
    by_cases h : k < 13
    · have hi : (k : Int) < 13 := by omega
      have HQ : Hid _ := HS.out.trans (nR_at k h t)
      have ix := HI.out k h
      have hw : IntKind.i64.wrap ((k : Int) + 1) = ((k + 1 : Nat) : Int) := by rw [IntKind.wrap_i64]; omega
      have he := eqT (rg k).t t
      have c0 := HX.out.res.cell
      have l0 := HX.out.res.lt
      clear HS HI
      generalize (rg k).t.a = A at *
      generalize (rg k).t.b = B at *
      generalize (rg k).t.c = C at *
      generalize (rg k).t.d = D at *
      have HX2 : ∀ o, Hid (CX w (wr.alloc o) t) := fun o => HX.out.alloc o
      cases hs : (rg k).t.same t
      · rw [hs] at he
        have HV : Hid (regOf t = nR (lRg.drop (k + 1)) (k + 1) t) := by rw [hs] at HQ; exact HQ.out
        clear HQ hs hk HX
        go_wp2
        go_roundw
        case rel => exact ⟨k + 1, by omega, rfl, HV.out, (HX2 _).out⟩
        case measure => simp [intOf]; omega
      · rw [hs] at he
        have HV : Hid (regOf t = some k) := by rw [hs] at HQ; exact HQ.out
        clear HQ hs hk HX
        go_wp2
        go_ret2
        exact ⟨by rw [HV.out]; rfl, (HX2 _).out.bel⟩
    · obtain rfl : k = 13 := by omega
      have HV : Hid (regOf t = none) := HS.out
      clear HS HI h hk
      go_wp2
      go_ret2
      exact ⟨by rw [HV.out]; rfl, HX.out.bel⟩
end Go.Proofs.YtdinmhjdnnhhjaaDoor
