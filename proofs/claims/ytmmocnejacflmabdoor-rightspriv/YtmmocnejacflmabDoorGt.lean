import Derived.Test.YtmmocnejacflmabDoorGb
namespace Go.Proofs.YtmmocnejacflmabDoor
open Go.RowKit
set_option linter.unusedVariables false
theorem below_new (w : World) (o : Obj) : Below w.heap.size w (w.alloc o) := (Below.refl _ _).alloc (Nat.le_refl _) o
theorem band_low (y : Int) (n : Nat) (hy : 0 ≤ y ∧ y < 4294967296) (hn : n ≤ 8) : bits .and .u32 y ((2 ^ n - 1 : Nat) : Int) = y % 2 ^ n := by
  obtain ⟨y, rfl⟩ := Int.eq_ofNat_of_zero_le hy.1
  have h1 : 2 ^ n ≤ 2 ^ 8 := Nat.pow_le_pow_right (by omega) hn
  have h2 := Nat.two_pow_pos n
  rw [u32_and_nat _ _ (by omega) (by omega), Nat.and_two_pow_sub_one_eq_mod, Int.natCast_emod, pow_nat]
theorem band1 (x : Int) (h : 0 ≤ x ∧ x < 4294967296) : bits BinOp.and IntKind.u32 x 1 = x % 2 := band_low x 1 h (by decide)
theorem band3 (x : Int) (h : 0 ≤ x ∧ x < 4294967296) : bits BinOp.and IntKind.u32 x 3 = x % 4 := band_low x 2 h (by decide)
theorem band15 (x : Int) (h : 0 ≤ x ∧ x < 4294967296) : bits BinOp.and IntKind.u32 x 15 = x % 16 := band_low x 4 h (by decide)
/-- What an AP allows: read and write of the privileged, read and write of a user. -/
structure Row where
  pr : Bool
  pw : Bool
  ur : Bool
  uw : Bool
def lAP : List Row := [⟨false, false, false, false⟩, ⟨true, true, false, false⟩, ⟨true, true, true, false⟩, ⟨true, true, true, true⟩, ⟨false, false, false, false⟩, ⟨true, false, false, false⟩, ⟨true, false, true, false⟩, ⟨true, false, true, false⟩]
def lHalf : List Row := [⟨true, true, false, false⟩, ⟨true, true, true, true⟩, ⟨true, false, false, false⟩, ⟨true, false, true, false⟩]
/-- How a kind of fault is told: its codes by its level, whether it has a domain. -/
structure Fo where
  c0 : Int
  c1 : Int
  c2 : Int
  dm : Bool
def lForm : List Fo := [⟨0, 0, 0, false⟩, ⟨1, 0, 0, false⟩, ⟨12, 0, 0, false⟩, ⟨5, 0, 0, false⟩, ⟨14, 0, 0, true⟩, ⟨7, 0, 0, true⟩, ⟨16, 0, 0, false⟩, ⟨0, 3, 6, true⟩, ⟨0, 9, 11, true⟩, ⟨0, 13, 15, true⟩, ⟨8, 0, 0, false⟩]
structure RoB (w : World) (g a : Nat) (r : Row) : Prop where
  c0 : w.cell? ⟨g, a, none⟩ = some (.bool r.pr)
  c1 : w.cell? ⟨g, a + 1, none⟩ = some (.bool r.pw)
  c2 : w.cell? ⟨g, a + 2, none⟩ = some (.bool r.ur)
  c3 : w.cell? ⟨g, a + 3, none⟩ = some (.bool r.uw)
structure RoF (w : World) (g a : Nat) (r : Fo) : Prop where
  c0 : w.cell? ⟨g, a, none⟩ = some (.int .u32 r.c0)
  c1 : w.cell? ⟨g, a + 1, none⟩ = some (.int .u32 r.c1)
  c2 : w.cell? ⟨g, a + 2, none⟩ = some (.int .u32 r.c2)
  c3 : w.cell? ⟨g, a + 3, none⟩ = some (.bool r.dm)
theorem RoB.below {w w' : World} {g a : Nat} {r : Row} (h : RoB w g a r) (hb : Below w.heap.size w w') : RoB w' g a r :=
  ⟨(hb.cell (cell_lt h.c0)).trans h.c0, (hb.cell (cell_lt h.c1)).trans h.c1, (hb.cell (cell_lt h.c2)).trans h.c2, (hb.cell (cell_lt h.c3)).trans h.c3⟩
theorem RoF.below {w w' : World} {g a : Nat} {r : Fo} (h : RoF w g a r) (hb : Below w.heap.size w w') : RoF w' g a r :=
  ⟨(hb.cell (cell_lt h.c0)).trans h.c0, (hb.cell (cell_lt h.c1)).trans h.c1, (hb.cell (cell_lt h.c2)).trans h.c2, (hb.cell (cell_lt h.c3)).trans h.c3⟩
/-- The tables of permissions; the table of forms. -/
structure TP (w : World) : Prop where
  ap : ∀ q r, lAP[q]? = some r → RoB w 2 (q * 4) r
  half : ∀ q r, lHalf[q]? = some r → RoB w 3 (q * 4) r
theorem TP.below {w w' : World} (h : TP w) (hb : Below w.heap.size w w') : TP w' := ⟨fun q r hr => (h.ap q r hr).below hb, fun q r hr => (h.half q r hr).below hb⟩
def TF (w : World) : Prop := ∀ q r, lForm[q]? = some r → RoF w 1 (q * 4) r
theorem TF.below {w w' : World} (h : TF w) (hb : Below w.heap.size w w') : TF w' := fun q r hr => (h q r hr).below hb
/-- What one side may do. -/
def roF (ap : Nat) (afe : Bool) : Row := if afe then lHalf.getD (ap / 2) ⟨false, false, false, false⟩ else lAP.getD ap ⟨false, false, false, false⟩
def maR (ap : Nat) (afe priv : Bool) : Bool := if priv then (roF ap afe).pr else (roF ap afe).ur
def maW (ap : Nat) (afe priv : Bool) : Bool := if priv then (roF ap afe).pw else (roF ap afe).uw
def alF (ap : Int) (xn afe priv : Bool) (k : Int) : Bool :=
  if 0 ≤ ap ∧ ap < 8 then
    if k = 1 then maR ap.toNat afe priv && !xn else if k = 2 then maR ap.toNat afe priv else if k = 3 then maW ap.toNat afe priv else false
  else false
def lvF (s : Int) : Int := if s = 1 ∨ s = 2 then 2 else if s = 3 ∨ s = 4 then 1 else 0
/-- A fault. -/
structure Fa where
  k : Int
  l : Int
  d : Int
def fZ : Fa := ⟨0, 0, 0⟩
def Fa.same (a b : Fa) : Bool := a.k == b.k && (a.l == b.l && a.d == b.d)
theorem Fa.same_iff (a b : Fa) : a.same b = true ↔ a = b := by
  obtain ⟨a1, a2, a3⟩ := a
  obtain ⟨b1, b2, b3⟩ := b
  simp [Fa.same]
theorem Fa.same_self (a : Fa) : a.same a = true := (Fa.same_iff a a).2 rfl
def foF (k : Int) : Fo := lForm.getD k.toNat ⟨0, 0, 0, false⟩
def cdF (k l : Int) : Int := if l = 0 then (foF k).c0 else if l = 1 then (foF k).c1 else (foF k).c2
abbrev Rg (f : Fa) : Prop := 0 ≤ f.k ∧ f.k < 11 ∧ 0 ≤ f.l ∧ f.l < 3
def rtF (f : Fa) : Bool := if Rg f then (if cdF f.k f.l = 0 then false else if (foF f.k).dm then decide (0 ≤ f.d) && decide (f.d ≤ 15) else f.d == 0) else false
def stW (f : Fa) (b : Bool) : Int := cdF f.k f.l % 16 + cdF f.k f.l / 16 * 1024 + f.d * 16 + (if b then 2048 else 0)
def stF (f : Fa) (b : Bool) : Int × Int := if rtF f then (stW f b, 0) else (0, 70)
def lCo : List (Int × Int) := [(0, 0), (1, 0), (0, 0), (7, 1), (0, 0), (3, 0), (7, 2), (5, 0), (10, 0), (8, 1), (0, 0), (8, 2), (2, 0), (9, 1), (4, 0), (9, 2), (6, 0)]
def coF (c : Int) : Fa := ⟨(lCo.getD c.toNat (0, 0)).1, (lCo.getD c.toNat (0, 0)).2, 0⟩
/-- A word's code, domain, write. -/
def wC (w : Int) : Int := w % 16 + w / 1024 % 2 * 16
def wF (w : Int) : Fa := ⟨(coF (wC w)).k, (coF (wC w)).l, w / 16 % 16⟩
def wB (w : Int) : Bool := w / 2048 % 2 == 1
def fOk (w : Int) : Bool := rtF (wF w) && (stW (wF w) (wB w) == w)
def fF (w : Int) : Fa := if fOk w then wF w else fZ
def fB (w : Int) : Bool := if fOk w then wB w else false
def fE (w : Int) : Int := if fOk w then 0 else 70
end Go.Proofs.YtmmocnejacflmabDoor
