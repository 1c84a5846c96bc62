import Derived.Test.YtdinmhjdnnhhjaaDoorBn
namespace Go.Proofs.YtdinmhjdnnhhjaaDoor
open Go.RowKit
set_option linter.unusedVariables false
set_option linter.unusedSimpArgs false
def Ac.same (x y : Ac) : Bool := x.k == y.k && (x.tk == y.tk && (x.tva == y.tva && (x.tas == y.tas && (x.va == y.va && (x.us == y.us && x.st == y.st)))))
theorem Ac.same_iff (x y : Ac) : x.same y = true ↔ x = y := by
  obtain ⟨a, b, c, d, e, f, g⟩ := x
  obtain ⟨a', b', c', d', e', f', g'⟩ := y
  simp [Ac.same]
theorem Ac.same_self (x : Ac) : x.same x = true := (Ac.same_iff x x).2 rfl
set_option maxRecDepth 100000 in
theorem eqA (x y : Ac) (w : World) : (Op.equalIn 10000 36 (.agg #[.int .i64 x.k, .int .i64 x.tk, .int .u32 (x.tva : Nat), .int .i64 (x.tas : Nat), .int .u32 (x.va : Nat), .bool x.us, .bool x.st]) (.agg #[.int .i64 y.k, .int .i64 y.tk, .int .u32 (y.tva : Nat), .int .i64 (y.tas : Nat), .int .u32 (y.va : Nat), .bool y.us, .bool y.st])).run Tryd.prog w = .ok (x.same y) w := by
  obtain ⟨a, b, c, d, e, f, g⟩ := x
  obtain ⟨a', b', c', d', e', f', g'⟩ := y
  go_simp
  simp only [Ac.same]
  repeat' split
  all_goals simp_all
  all_goals omega
def Ctx.same (x y : Ctx) : Bool := x.on == y.on && (x.tre == y.tre && (x.afe == y.afe && (x.n == y.n && (x.pd0 == y.pd0 && (x.pd1 == y.pd1 && (x.b0 == y.b0 && (x.b1 == y.b1 && (x.dacr == y.dacr && (x.prrr == y.prrr && (x.nmrr == y.nmrr && x.asid == y.asid))))))))))
theorem Ctx.same_self (x : Ctx) : x.same x = true := by simp [Ctx.same]
set_option maxRecDepth 100000 in
theorem eqX (x : Ctx) (w : World) : (Op.equalIn 10000 54 (.agg #[.bool x.on, .bool x.tre, .bool x.afe, .int .i64 (x.n : Nat), .bool x.pd0, .bool x.pd1, .int .u64 (x.b0 : Nat), .int .u64 (x.b1 : Nat), .int .u32 (x.dacr : Nat), .int .u32 (x.prrr : Nat), .int .u32 (x.nmrr : Nat), .int .i64 (x.asid : Nat)]) (.agg #[.bool x.on, .bool x.tre, .bool x.afe, .int .i64 (x.n : Nat), .bool x.pd0, .bool x.pd1, .int .u64 (x.b0 : Nat), .int .u64 (x.b1 : Nat), .int .u32 (x.dacr : Nat), .int .u32 (x.prrr : Nat), .int .u32 (x.nmrr : Nat), .int .i64 (x.asid : Nat)])).run Tryd.prog w = .ok true w := by
  obtain ⟨a, b, c, d, e, f, g, h, i, j, k, l⟩ := x
  go_simp
set_option maxRecDepth 100000 in
theorem eqH (F : List Nat) (hl : F.length = 13) (w : World) : (Op.equalIn 10000 31 (.agg (encF F).toArray) (.agg (encF F).toArray)).run Tryd.prog w = .ok true w := by
  obtain ⟨x0, x1, x2, x3, x4, x5, x6, x7, x8, x9, x10, x11, x12, rfl⟩ : ∃ x0 x1 x2 x3 x4 x5 x6 x7 x8 x9 x10 x11 x12, F = [x0, x1, x2, x3, x4, x5, x6, x7, x8, x9, x10, x11, x12] := by
    match F, hl with
    | [x0, x1, x2, x3, x4, x5, x6, x7, x8, x9, x10, x11, x12], _ => exact ⟨_, _, _, _, _, _, _, _, _, _, _, _, _, rfl⟩
  simp only [encF, List.map_cons, List.map_nil]
  rw [show (10000 : Nat) = 9999 + 1 from rfl, Op.equalIn]
  simp only [Sem.run_bind, run_underlying Tryd.underlying31, Result.andThen_ok]
  simp only [Std.Legacy.Range.forIn_eq_forIn_range', Std.Legacy.Range.size, Nat.sub_zero, Nat.add_sub_cancel, Nat.div_one, List.range'_succ, List.range'_zero, List.forIn_cons, List.forIn_nil]
  go_simp
end Go.Proofs.YtdinmhjdnnhhjaaDoor
