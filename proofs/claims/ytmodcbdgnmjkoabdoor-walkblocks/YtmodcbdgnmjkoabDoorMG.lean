import Derived.Test.YtmodcbdgnmjkoabDoorCx
import Derived.Test.YtmodcbdgnmjkoabDoorRi
namespace Go.Proofs.YtmodcbdgnmjkoabDoor
open Go.RowKit
end Go.Proofs.YtmodcbdgnmjkoabDoor
namespace Go.Proofs.YtmodcbdgnmjkoabDoor
open Go.RowKit
set_option linter.unusedVariables false
theorem band_low (y : Int) (n : Nat) (hy : 0 ≤ y ∧ y < 4294967296) (hn : n ≤ 8) : bits .and .u32 y ((2 ^ n - 1 : Nat) : Int) = y % 2 ^ n := by
  obtain ⟨y, rfl⟩ := Int.eq_ofNat_of_zero_le hy.1
  have h1 : 2 ^ n ≤ 2 ^ 8 := Nat.pow_le_pow_right (by omega) hn
  have h2 := Nat.two_pow_pos n
  rw [u32_and_nat _ _ (by omega) (by omega), Nat.and_two_pow_sub_one_eq_mod, Int.natCast_emod, pow_nat]
theorem band1 (x : Int) (h : 0 ≤ x ∧ x < 4294967296) : bits BinOp.and IntKind.u32 x 1 = x % 2 := band_low x 1 h (by decide)
theorem band3 (x : Int) (h : 0 ≤ x ∧ x < 4294967296) : bits BinOp.and IntKind.u32 x 3 = x % 4 := band_low x 2 h (by decide)
theorem band15 (x : Int) (h : 0 ≤ x ∧ x < 4294967296) : bits BinOp.and IntKind.u32 x 15 = x % 16 := band_low x 4 h (by decide)
/-- What an AP allows: read and write of the privileged, read and write of a user. -/
structure Row where
  pr : Bool
  pw : Bool
  ur : Bool
  uw : Bool
def lAP : List Row := [⟨false, false, false, false⟩, ⟨true, true, false, false⟩, ⟨true, true, true, false⟩, ⟨true, true, true, true⟩, ⟨false, false, false, false⟩, ⟨true, false, false, false⟩, ⟨true, false, true, false⟩, ⟨true, false, true, false⟩]
def lHalf : List Row := [⟨true, true, false, false⟩, ⟨true, true, true, true⟩, ⟨true, false, false, false⟩, ⟨true, false, true, false⟩]
/-- How a kind of fault is told: its codes by its level, whether it has a domain. -/
structure Fo where
  c0 : Int
  c1 : Int
  c2 : Int
  dm : Bool
def lForm : List Fo := [⟨0, 0, 0, false⟩, ⟨1, 0, 0, false⟩, ⟨12, 0, 0, false⟩, ⟨5, 0, 0, false⟩, ⟨14, 0, 0, true⟩, ⟨7, 0, 0, true⟩, ⟨16, 0, 0, false⟩, ⟨0, 3, 6, true⟩, ⟨0, 9, 11, true⟩, ⟨0, 13, 15, true⟩, ⟨8, 0, 0, false⟩]
structure RoB (w : World) (g a : Nat) (r : Row) : Prop where
  c0 : w.cell? ⟨g, a, none⟩ = some (.bool r.pr)
  c1 : w.cell? ⟨g, a + 1, none⟩ = some (.bool r.pw)
  c2 : w.cell? ⟨g, a + 2, none⟩ = some (.bool r.ur)
  c3 : w.cell? ⟨g, a + 3, none⟩ = some (.bool r.uw)
structure RoF (w : World) (g a : Nat) (r : Fo) : Prop where
  c0 : w.cell? ⟨g, a, none⟩ = some (.int .u32 r.c0)
  c1 : w.cell? ⟨g, a + 1, none⟩ = some (.int .u32 r.c1)
  c2 : w.cell? ⟨g, a + 2, none⟩ = some (.int .u32 r.c2)
  c3 : w.cell? ⟨g, a + 3, none⟩ = some (.bool r.dm)
theorem RoB.below {w w' : World} {g a : Nat} {r : Row} (h : RoB w g a r) (hb : Below w.heap.size w w') : RoB w' g a r :=
  ⟨(hb.cell (cell_lt h.c0)).trans h.c0, (hb.cell (cell_lt h.c1)).trans h.c1, (hb.cell (cell_lt h.c2)).trans h.c2, (hb.cell (cell_lt h.c3)).trans h.c3⟩
theorem RoF.below {w w' : World} {g a : Nat} {r : Fo} (h : RoF w g a r) (hb : Below w.heap.size w w') : RoF w' g a r :=
  ⟨(hb.cell (cell_lt h.c0)).trans h.c0, (hb.cell (cell_lt h.c1)).trans h.c1, (hb.cell (cell_lt h.c2)).trans h.c2, (hb.cell (cell_lt h.c3)).trans h.c3⟩
/-- The tables of permissions; the table of forms. -/
structure TP (w : World) : Prop where
  ap : ∀ q r, lAP[q]? = some r → RoB w 6 (q * 4) r
  half : ∀ q r, lHalf[q]? = some r → RoB w 7 (q * 4) r
theorem TP.below {w w' : World} (h : TP w) (hb : Below w.heap.size w w') : TP w' := ⟨fun q r hr => (h.ap q r hr).below hb, fun q r hr => (h.half q r hr).below hb⟩
/-- What one side may do. -/
def roF (ap : Nat) (afe : Bool) : Row := if afe then lHalf.getD (ap / 2) ⟨false, false, false, false⟩ else lAP.getD ap ⟨false, false, false, false⟩
def maR (ap : Nat) (afe priv : Bool) : Bool := if priv then (roF ap afe).pr else (roF ap afe).ur
def maW (ap : Nat) (afe priv : Bool) : Bool := if priv then (roF ap afe).pw else (roF ap afe).uw
def alF (ap : Int) (xn afe priv : Bool) (k : Int) : Bool :=
  if 0 ≤ ap ∧ ap < 8 then
    if k = 1 then maR ap.toNat afe priv && !xn else if k = 2 then maR ap.toNat afe priv else if k = 3 then maW ap.toNat afe priv else false
  else false
def lvF (s : Int) : Int := if s = 1 ∨ s = 2 then 2 else if s = 3 ∨ s = 4 then 1 else 0
def foF (k : Int) : Fo := lForm.getD k.toNat ⟨0, 0, 0, false⟩
def cdF (k l : Int) : Int := if l = 0 then (foF k).c0 else if l = 1 then (foF k).c1 else (foF k).c2
abbrev Rg (f : Fa) : Prop := 0 ≤ f.k ∧ f.k < 11 ∧ 0 ≤ f.l ∧ f.l < 3
def rtF (f : Fa) : Bool := if Rg f then (if cdF f.k f.l = 0 then false else if (foF f.k).dm then decide (0 ≤ f.d) && decide (f.d ≤ 15) else f.d == 0) else false
def stW (f : Fa) (b : Bool) : Int := cdF f.k f.l % 16 + cdF f.k f.l / 16 * 1024 + f.d * 16 + (if b then 2048 else 0)
def stF (f : Fa) (b : Bool) : Int × Int := if rtF f then (stW f b, 0) else (0, 70)
def lCo : List (Int × Int) := [(0, 0), (1, 0), (0, 0), (7, 1), (0, 0), (3, 0), (7, 2), (5, 0), (10, 0), (8, 1), (0, 0), (8, 2), (2, 0), (9, 1), (4, 0), (9, 2), (6, 0)]
def coF (c : Int) : Fa := ⟨(lCo.getD c.toNat (0, 0)).1, (lCo.getD c.toNat (0, 0)).2, 0⟩
/-- A word's code, domain, write. -/
def wC (w : Int) : Int := w % 16 + w / 1024 % 2 * 16
def wF (w : Int) : Fa := ⟨(coF (wC w)).k, (coF (wC w)).l, w / 16 % 16⟩
def wB (w : Int) : Bool := w / 2048 % 2 == 1
def fOk (w : Int) : Bool := rtF (wF w) && (stW (wF w) (wB w) == w)
def fF (w : Int) : Fa := if fOk w then wF w else fZ
def fB (w : Int) : Bool := if fOk w then wB w else false
def fE (w : Int) : Int := if fOk w then 0 else 70
end Go.Proofs.YtmodcbdgnmjkoabDoor
namespace Go.Proofs.YtmodcbdgnmjkoabDoor
open Go.RowKit
set_option linter.unusedVariables false
set_option linter.unusedSimpArgs false
set_option maxRecDepth 100000 in
set_option maxHeartbeats 1000000 in
theorem allowed_off (ap : Nat) (priv a b c d : Bool) (w : World) (h : ap < 8) (hR : RoB w 6 (ap * 4) ⟨a, b, c, d⟩) :
    Calls Tryd.prog 89 #[.int .i64 ap, .bool false, .bool priv] w fun e w' => e = .returned (.agg #[.bool (if priv then a else c), .bool (if priv then b else d)]) ∧ Below w.heap.size w w' := by
  obtain ⟨c0, c1, c2, c3⟩ := hR
  have l0 := cell_lt c0
  simp only at c0 c1 c2 c3 l0
  have hg : ¬ (6 = w.heap.size) := by omega
  have hi : (ap : Int) < 8 := by omega
  cases priv
  · go_enter Tryd.func89, Tryd.ntmps89
    go_wp2
    refine bodyPost_ret (v := .agg #[.bool c, .bool d]) (by simp [results, Tryd.results89, go_sem]) rfl ⟨rfl, (by (repeat (first | apply below_drew | refine Below.setCell ?_ (by simp) _ | refine Below.alloc ?_ (by simp) _)); exact Below.refl _ _)⟩
  · go_enter Tryd.func89, Tryd.ntmps89
    go_wp2
    refine bodyPost_ret (v := .agg #[.bool a, .bool b]) (by simp [results, Tryd.results89, go_sem]) rfl ⟨rfl, (by (repeat (first | apply below_drew | refine Below.setCell ?_ (by simp) _ | refine Below.alloc ?_ (by simp) _)); exact Below.refl _ _)⟩
set_option maxRecDepth 100000 in
set_option maxHeartbeats 1000000 in
theorem allowed_on (ap : Nat) (priv a b c d a' b' c' d' : Bool) (w : World) (h : ap < 8) (hR0 : RoB w 6 (ap * 4) ⟨a', b', c', d'⟩) (hR : RoB w 7 (ap / 2 * 4) ⟨a, b, c, d⟩) :
    Calls Tryd.prog 89 #[.int .i64 ap, .bool true, .bool priv] w fun e w' => e = .returned (.agg #[.bool (if priv then a else c), .bool (if priv then b else d)]) ∧ Below w.heap.size w w' := by
  obtain ⟨k0, k1, k2, k3⟩ := hR0
  have l1 := cell_lt k0
  obtain ⟨c0, c1, c2, c3⟩ := hR
  have l0 := cell_lt c0
  simp only at c0 c1 c2 c3 l0 k0 k1 k2 k3 l1
  have hg : ¬ (7 = w.heap.size) := by omega
  have hg2 : ¬ (7 = w.heap.size + 1) := by omega
  have hg3 : ¬ (6 = w.heap.size) := by omega
  have hi : (ap : Int) < 8 := by omega
  have hd : (ap : Int) / 2 < 4 := by omega
  have hd0 : 0 ≤ (ap : Int) / 2 := by omega
  have ht : ((ap : Int) / 2).toNat = ap / 2 := by omega
  have hq : (ap : Int).tdiv 2 = (ap : Int) / 2 := Int.tdiv_eq_ediv_of_nonneg (by omega)
  cases priv
  · go_enter Tryd.func89, Tryd.ntmps89
    go_wp2
    refine bodyPost_ret (v := .agg #[.bool c, .bool d]) (by simp [results, Tryd.results89, go_sem]) rfl ⟨rfl, (by (repeat (first | apply below_drew | refine Below.setCell ?_ (by simp) _ | refine Below.alloc ?_ (by simp) _)); exact Below.refl _ _)⟩
  · go_enter Tryd.func89, Tryd.ntmps89
    go_wp2
    refine bodyPost_ret (v := .agg #[.bool a, .bool b]) (by simp [results, Tryd.results89, go_sem]) rfl ⟨rfl, (by (repeat (first | apply below_drew | refine Below.setCell ?_ (by simp) _ | refine Below.alloc ?_ (by simp) _)); exact Below.refl _ _)⟩
theorem lAP_at (ap : Nat) (h : ap < 8) : lAP[ap]? = some (lAP.getD ap ⟨false, false, false, false⟩) := by
  have : ap < lAP.length := h
  simp [List.getD, this]
theorem lHalf_at (q : Nat) (h : q < 4) : lHalf[q]? = some (lHalf.getD q ⟨false, false, false, false⟩) := by
  have : q < lHalf.length := h
  simp [List.getD, this]
theorem allowed_any (ap : Nat) (afe priv : Bool) (w : World) (h : ap < 8) (hT : TP w) :
    Calls Tryd.prog 89 #[.int .i64 ap, .bool afe, .bool priv] w fun e w' => e = .returned (.agg #[.bool (maR ap afe priv), .bool (maW ap afe priv)]) ∧ Below w.heap.size w w' := by
  cases afe
  · exact allowed_off ap priv _ _ _ _ w h (hT.ap _ _ (lAP_at ap h))
  · exact allowed_on ap priv _ _ _ _ _ _ _ _ w h (hT.ap _ _ (lAP_at ap h)) (hT.half _ _ (lHalf_at (ap / 2) (by omega)))
set_option maxRecDepth 100000 in
set_option maxHeartbeats 1000000 in
theorem allows_no (ap bt : Int) (ng xn afe priv : Bool) (k : Int) (w : World) (h : ¬ (0 ≤ ap ∧ ap < 8)) :
    Calls Tryd.prog 65 #[.agg #[.int .i64 ap, .int .u32 bt, .bool ng, .bool xn], .bool afe, .bool priv, .int .i64 k] w fun e w' => e = .returned (.bool false) ∧ Below w.heap.size w w' := by
  have HN : Hid (∀ o, Below w.heap.size w (w.alloc o)) := below_new w
  by_cases h1 : ap < 0
  · have q1 : decide (ap < 0) = true := by simp [h1]
    clear h
    go_enter Tryd.func65, Tryd.ntmps65
    go_wp2
    go_ret
    exact ⟨rfl, HN.out _⟩
  · have q1 : decide (ap < 0) = false := by simp; omega
    have q2 : decide (8 ≤ ap) = true := by simp; omega
    clear h
    go_enter Tryd.func65, Tryd.ntmps65
    go_wp2
    go_ret
    exact ⟨rfl, HN.out _⟩
set_option maxRecDepth 100000 in
set_option maxHeartbeats 2000000 in
theorem allows_yes (ap bt : Int) (ng xn afe priv r s : Bool) (k : Int) (w : World) (h1 : 0 ≤ ap) (h2 : ap < 8) (hT : TP w)
    (HA : ∀ w, TP w → Calls Tryd.prog 89 #[.int .i64 ap, .bool afe, .bool priv] w fun e w' => e = .returned (.agg #[.bool r, .bool s]) ∧ Below w.heap.size w w') :
    Calls Tryd.prog 65 #[.agg #[.int .i64 ap, .int .u32 bt, .bool ng, .bool xn], .bool afe, .bool priv, .int .i64 k] w fun e w' => e = .returned (.bool (if k = 1 then r && !xn else if k = 2 then r else if k = 3 then s else false)) ∧ Below w.heap.size w w' := by
  have q1 : decide (ap < 0) = false := by simp; omega
  have q2 : decide (8 ≤ ap) = false := by simp; omega
  have HT : Hid (TP (w.alloc (.cells #[.int .i64 ap, .int .u32 bt, .bool ng, .bool xn] 47))) := hT.below (below_new w _)
  have HB0 : Hid (Below w.heap.size w (w.alloc (.cells #[.int .i64 ap, .int .u32 bt, .bool ng, .bool xn] 47))) := below_new w _
  have HL0 : Hid (Bl (w.alloc (.cells #[.int .i64 ap, .int .u32 bt, .bool ng, .bool xn] 47)) w.heap.size 47 [.int .i64 ap, .int .u32 bt, .bool ng, .bool xn]) := Bl.new _ _ _
  have HA' : Hid (∀ w, TP w → Calls Tryd.prog 89 #[.int .i64 ap, .bool afe, .bool priv] w fun e w' => e = .returned (.agg #[.bool r, .bool s]) ∧ Below w.heap.size w w') := HA
  clear hT HA h1 h2
  have ek : (k = 1 ∨ k = 2 ∨ k = 3 ∨ (¬ (k = 1) ∧ ¬ (k = 2) ∧ ¬ (k = 3))) := by omega
  go_enter Tryd.func65, Tryd.ntmps65
  go_wp2_with (fail)
  go_at_call 89
  refine (HA'.out _ HT.out).mono ?_
  rintro e w1 ⟨rfl, hb⟩
  have HL1 : Hid (Bl w1 w.heap.size 47 [.int .i64 ap, .int .u32 bt, .bool ng, .bool xn]) := HL0.out.below hb
  have HB1 : Hid (Below w.heap.size w w1) := Below.step HB0.out hb
  clear hb HL0 HB0 HT HA'
  have c0 := HL1.out.cell
  have l0 := HL1.out.lt
  have HN : Hid (∀ o, Below w.heap.size w (w1.alloc o)) := fun o => HB1.out.alloc HB1.out.size o
  have hne : ¬ (w.heap.size = w1.heap.size) := by omega
  rcases ek with rfl | rfl | rfl | ⟨k1, k2, k3⟩
  · cases r
    · go_wp2
      go_ret
      exact ⟨by simp, HN.out _⟩
    · go_wp2
      go_ret
      exact ⟨by simp, HN.out _⟩
  · go_wp2
    go_ret
    exact ⟨by simp, HN.out _⟩
  · go_wp2
    go_ret
    exact ⟨by simp, HN.out _⟩
  · have z1 : (k == 1) = false := by simp [k1]
    have z2 : (k == 2) = false := by simp [k2]
    have z3 : (k == 3) = false := by simp [k3]
    go_wp2
    go_ret
    exact ⟨by simp [k1, k2, k3], HN.out _⟩
theorem allows_any (ap bt : Int) (ng xn afe priv : Bool) (k : Int) (w : World) (hT : TP w) :
    Calls Tryd.prog 65 #[.agg #[.int .i64 ap, .int .u32 bt, .bool ng, .bool xn], .bool afe, .bool priv, .int .i64 k] w fun e w' => e = .returned (.bool (alF ap xn afe priv k)) ∧ Below w.heap.size w w' := by
  unfold alF
  by_cases h : 0 ≤ ap ∧ ap < 8
  · rw [if_pos h]
    obtain ⟨n, rfl⟩ := Int.eq_ofNat_of_zero_le h.1
    exact allows_yes n bt ng xn afe priv _ _ k w h.1 h.2 hT (fun w hw => allowed_any n afe priv w (by omega) hw)
  · rw [if_neg h]
    exact allows_no ap bt ng xn afe priv k w h
end Go.Proofs.YtmodcbdgnmjkoabDoor
