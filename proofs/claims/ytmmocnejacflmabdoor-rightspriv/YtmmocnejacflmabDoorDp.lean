import Derived.Test.YtmmocnejacflmabDoorEq
namespace Go.Proofs.YtmmocnejacflmabDoor
open Go.RowKit
set_option linter.unusedVariables false

/-- What words of each kind say. -/
def dZ : Ent := ⟨0, 0, 0, false, 0, 0, false, false⟩
def dT (x : Int) : Ent := ⟨1, x / 1024 * 1024, F x 5 4, F x 3 1 == 1, 0, 0, false, false⟩
def dS (x : Int) : Ent := ⟨2, x / 1048576 * 1048576, F x 5 4, F x 19 1 == 1, F x 15 1 * 4 + F x 10 2, F x 12 3 * 8 + F x 2 2 * 2 + F x 16 1, F x 17 1 == 1, F x 4 1 == 1⟩
def dU (x : Int) : Ent := ⟨3, x / 16777216 * 16777216 + (F x 20 4 * 4294967296 + F x 5 4 * 68719476736), 0, F x 19 1 == 1, F x 15 1 * 4 + F x 10 2, F x 12 3 * 8 + F x 2 2 * 2 + F x 16 1, F x 17 1 == 1, F x 4 1 == 1⟩
def dL (x : Int) : Ent := ⟨4, x / 65536 * 65536, 0, false, F x 9 1 * 4 + F x 4 2, F x 12 3 * 8 + F x 2 2 * 2 + F x 10 1, F x 11 1 == 1, F x 15 1 == 1⟩
def dM (x : Int) : Ent := ⟨5, x / 4096 * 4096, 0, false, F x 9 1 * 4 + F x 4 2, F x 6 3 * 8 + F x 2 2 * 2 + F x 10 1, F x 11 1 == 1, F x 0 1 == 1⟩
def D1 (x : Int) : Ent := if x % 4 = 1 then dT x else if x % 4 = 2 then (if F x 18 1 = 1 then dU x else dS x) else dZ
def D2 (x : Int) : Ent := if x % 4 = 0 then dZ else if x % 4 = 1 then dL x else dM x

theorem leafA (x a b : Int) : IntKind.i64.wrap (bits .or .u32 (IntKind.u32.wrap (F x a 1 * 4)) (F x b 2)) = F x a 1 * 4 + F x b 2 := by
  have h1 := F_lo x a 1
  have h2 : F x a 1 < 2 := F_hi x a 1
  have h3 := F_lo x b 2
  have h4 : F x b 2 < 4 := F_hi x b 2
  rw [IntKind.wrap_u32, show F x a 1 * 4 % 4294967296 = F x a 1 * 4 by omega, (or32 (m := 4) (n := 3) (show In 4 (F x a 1 * 4) from (in_F x a 1).shl 2) (in_F x b 2) (by decide) (by decide) (by decide)).1, IntKind.wrap_i64]
  omega
theorem leafB (x t s : Int) : bits .or .u32 (bits .or .u32 (IntKind.u32.wrap (F x t 3 * 8)) (IntKind.u32.wrap (F x 2 2 * 2))) (F x s 1) = F x t 3 * 8 + F x 2 2 * 2 + F x s 1 := by
  have h1 := F_lo x t 3
  have h2 : F x t 3 < 8 := F_hi x t 3
  have h3 := F_lo x 2 2
  have h4 : F x 2 2 < 4 := F_hi x 2 2
  have ho := or32 (m := 56) (n := 6) ((in_F x t 3).shl 3) ((in_F x 2 2).shl 1) (by decide) (by decide) (by decide)
  rw [IntKind.wrap_u32, IntKind.wrap_u32, show F x t 3 * 8 % 4294967296 = F x t 3 * 8 by omega, show F x 2 2 * 2 % 4294967296 = F x 2 2 * 2 by omega]
  rw [show F x t 3 * 8 = F x t 3 * 2 ^ 3 from rfl, show F x 2 2 * 2 = F x 2 2 * 2 ^ 1 from rfl]
  rw [ho.1, (or32 ho.2 (in_F x s 1) (by decide) (by decide) (by decide)).1]
end Go.Proofs.YtmmocnejacflmabDoor
