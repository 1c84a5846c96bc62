import Derived.Test.YtnjlajjjcmhfgaaGreatDoorQA05
import Derived.Test.YtnjlajjjcmhfgaaGreatDoorQA06
import Derived.Test.YtnjlajjjcmhfgaaGreatDoorQA07
import Derived.Test.YtnjlajjjcmhfgaaGreatDoorQA08
import Derived.Handy
namespace Go.Proofs.YtnjlajjjcmhfgaaGreatDoor
open Go.RowKit
set_option linter.unusedVariables false
theorem below_new (w : World) (o : Obj) : Below w.heap.size w (w.alloc o) := (Below.refl _ _).alloc (Nat.le_refl _) o
/-- A fault. -/
structure Fa where
  k : Int
  l : Int
  d : Int
def fZ : Fa := ⟨0, 0, 0⟩
def Fa.same (a b : Fa) : Bool := a.k == b.k && (a.l == b.l && a.d == b.d)
theorem Fa.same_iff (a b : Fa) : a.same b = true ↔ a = b := by
  obtain ⟨a1, a2, a3⟩ := a
  obtain ⟨b1, b2, b3⟩ := b
  simp [Fa.same]
theorem Fa.same_self (a : Fa) : a.same a = true := (Fa.same_iff a a).2 rfl
/-- A context. -/
structure Ctx where
  on : Bool
  tre : Bool
  afe : Bool
  n : Int
  pd0 : Bool
  pd1 : Bool
  b0 : Int
  b1 : Int
  dacr : Int
  prrr : Int
  nmrr : Int
  asid : Int
end Go.Proofs.YtnjlajjjcmhfgaaGreatDoor
namespace Go.Proofs.YtnjlajjjcmhfgaaGreatDoor
open Go.RowKit
open Mm (Turn gr RM)
set_option linter.unusedVariables false
set_option linter.unusedSimpArgs false

/-- A memory: what an address' word is, and its error. -/
structure Mo where
  wd : Int → Int
  er : Int → Int
/-- Its words are words. -/
def Mo.Ok (M : Mo) : Prop := ∀ a, 0 ≤ M.wd a ∧ M.wd a < 4294967296
def nN (c : Ctx) : Nat := (c.n % 8).toNat
def lw (c : Ctx) (va : Int) : Bool := va / 2 ^ (32 - nN c) == 0
def cl (b : Int) (n : Nat) : Int := b / 2 ^ n * 2 ^ n
/-- Where the first-level descriptor stands; whether walks go there. -/
def fA (c : Ctx) (va : Int) : Int := if lw c va then cl c.b0 (14 - nN c) + 4 * (va / 1048576) else cl c.b1 14 + 4 * (va / 1048576)
def fO (c : Ctx) (va : Int) : Bool := if lw c va then !c.pd0 else !c.pd1
def w1 (M : Mo) (c : Ctx) (va : Int) : Ent × Fa :=
  if fO c va then (if M.er (fA c va) = 0 then (if (D1 (M.wd (fA c va))).kind = 0 then (dZ, ⟨3, 0, 0⟩) else (D1 (M.wd (fA c va)), fZ)) else (dZ, ⟨2, 0, 0⟩)) else (dZ, ⟨3, 0, 0⟩)
def sA (x : Ent) (va : Int) : Int := x.base + 4 * (va / 4096 % 256)
def w2 (M : Mo) (x : Ent) (va : Int) : Tra × Fa :=
  if M.er (sA x va) = 0 then (if (D2 (M.wd (sA x va))).kind = 0 then (tZ, ⟨5, 0, x.dom⟩) else (trF (D2 (M.wd (sA x va))) x.dom va, fZ)) else (tZ, ⟨4, 0, x.dom⟩)
def itF (va : Int) : Tra := ⟨1, va / 4096 * 4096, va / 4096 * 4096, 0, 3, 0, false, false⟩
/-- The walk; what it reads. -/
def wk (M : Mo) (c : Ctx) (va : Int) : Tra × Fa :=
  if c.on then (if (w1 M c va).2.k = 0 then (if (w1 M c va).1.kind = 1 then w2 M (w1 M c va).1 va else (trF (w1 M c va).1 0 va, fZ)) else (tZ, (w1 M c va).2)) else (itF va, fZ)
def r1 (c : Ctx) (va : Int) : List Int := if fO c va then [fA c va] else []
def rdL (M : Mo) (c : Ctx) (va : Int) : List Int :=
  if c.on then (if (w1 M c va).2.k = 0 ∧ (w1 M c va).1.kind = 1 then r1 c va ++ [sA (w1 M c va).1 va] else r1 c va) else []
/-- A context's numbers fit. -/
structure Ctx.Ok (c : Ctx) : Prop where
  n : -9223372036854775808 ≤ c.n ∧ c.n ≤ 9223372036854775807
  b0 : 0 ≤ c.b0 ∧ c.b0 < 18446744073709551616
  b1 : 0 ≤ c.b1 ∧ c.b1 < 18446744073709551616
  dacr : 0 ≤ c.dacr ∧ c.dacr < 4294967296
theorem nN_lt (c : Ctx) : nN c ≤ 7 := by unfold nN; omega
theorem pw_split (n : Nat) (h : n ≤ 7) : (2 : Int) ^ (32 - n) = 2 ^ (14 - n) * 262144 := by
  rw [show 32 - n = (14 - n) + 18 by omega, Int.pow_add]; rfl
theorem pw_mul (n : Nat) (h : n ≤ 14) : (2 : Int) ^ n * 2 ^ (64 - n) = 18446744073709551616 := by
  rw [← Int.pow_add, show n + (64 - n) = 64 by omega]; rfl
theorem cl_le (b : Int) (n : Nat) (h0 : 0 ≤ b) : 0 ≤ cl b n ∧ cl b n ≤ b := by
  have h := pow_pos n
  exact ⟨Int.mul_nonneg (Int.ediv_nonneg h0 (by omega)) (by omega), Int.ediv_mul_le b (by omega)⟩
theorem cl_hi (b : Int) (n : Nat) (hn : n ≤ 14) (h0 : 0 ≤ b) (h : b < 18446744073709551616) : cl b n + 2 ^ n ≤ 18446744073709551616 := by
  have hp := pow_pos n
  have hm := pw_mul n hn
  have h1 : b / 2 ^ n < 2 ^ (64 - n) := by
    refine Int.ediv_lt_of_lt_mul hp ?_
    rw [Int.mul_comm, hm]; exact h
  have h2 : (b / 2 ^ n + 1) * 2 ^ n ≤ 2 ^ (64 - n) * 2 ^ n := Int.mul_le_mul_of_nonneg_right (by omega) (by omega)
  rw [Int.add_mul, Int.one_mul, Int.mul_comm (2 ^ (64 - n)), hm] at h2
  exact h2
theorem lw_idx {c : Ctx} {va : Int} (h0 : 0 ≤ va) (h : lw c va = true) : 4 * (va / 1048576) < 2 ^ (14 - nN c) := by
  have hp := pow_pos (14 - nN c)
  have h1 : va / 2 ^ (32 - nN c) = 0 := by simpa [lw] using h
  have h2 : va < 2 ^ (32 - nN c) := by
    have := Int.lt_ediv_add_one_mul_self va (pow_pos (32 - nN c))
    rw [h1] at this; omega
  rw [pw_split _ (nN_lt c)] at h2
  have h3 : va / 262144 < 2 ^ (14 - nN c) := Int.ediv_lt_of_lt_mul (by decide) h2
  omega
theorem fA_rng (c : Ctx) (va : Int) (hc : c.Ok) (hv : 0 ≤ va ∧ va < 4294967296) : 0 ≤ fA c va ∧ fA c va < 18446744073709551616 := by
  unfold fA
  split
  · rename_i h
    have h1 := cl_le c.b0 (14 - nN c) hc.b0.1
    have h2 := cl_hi c.b0 (14 - nN c) (by omega) hc.b0.1 hc.b0.2
    have h3 := lw_idx hv.1 h
    omega
  · have h1 := cl_le c.b1 14 hc.b1.1
    have h2 := cl_hi c.b1 14 (by omega) hc.b1.1 hc.b1.2
    rw [show (2 : Int) ^ 14 = 16384 from rfl] at h2
    omega
theorem D1_base (x : Int) (h : 0 ≤ x ∧ x < 4294967296) : (D1 x).kind = 1 → 0 ≤ (D1 x).base ∧ (D1 x).base ≤ 4294966272 ∧ (D1 x).base % 1024 = 0 ∧ 0 ≤ (D1 x).dom ∧ (D1 x).dom ≤ 15 := by
  intro hk
  unfold D1 at hk ⊢
  split at hk
  · rename_i h1
    rw [if_pos h1]
    simp only [dT, F_5_4]
    omega
  · split at hk
    · split at hk <;> cases hk
    · cases hk
theorem w1_kind {M : Mo} {c : Ctx} {va : Int} (h : (w1 M c va).2.k = 0) : fO c va = true ∧ M.er (fA c va) = 0 ∧ w1 M c va = (D1 (M.wd (fA c va)), fZ) ∧ (D1 (M.wd (fA c va))).kind ≠ 0 := by
  unfold w1 at h ⊢
  split at h
  · rename_i h1
    split at h
    · rename_i h2
      split at h
      · cases h
      · rename_i h3
        exact ⟨h1, h2, by rw [if_pos h1, if_pos h2, if_neg h3], h3⟩
    · cases h
  · cases h
theorem sA_rng {x va : Int} (hx : 0 ≤ x ∧ x < 4294967296) (hk : (D1 x).kind = 1) (hv : 0 ≤ va) : 0 ≤ sA (D1 x) va ∧ sA (D1 x) va < 4294967296 ∧ sA (D1 x) va % 4 = 0 := by
  have := D1_base x hx hk
  unfold sA
  omega
end Go.Proofs.YtnjlajjjcmhfgaaGreatDoor
namespace Go.Proofs.YtnjlajjjcmhfgaaGreatDoor
open Go.RowKit
open Mm (Turn gr RM)
set_option linter.unusedVariables false
set_option linter.unusedSimpArgs false
theorem hidW {p : Prop} (h : p) : Hid p := h
/-- The tables. -/
structure TW (w : World) : Prop where
  r : TT w
theorem Tb.turn {k : IntKind} {w w' : World} {g : Nat} {l : List Int} {X : Nat → Prop} (h : Tb k w g l) (T : Turn X w w') (hn : ¬ X g) : Tb k w' g l := fun i v hv => (T.cell (cell_lt (h i v hv)) hn i).trans (h i v hv)
/-- Their blocks. -/
def tbl (b : Nat) : Prop := b = 5 ∨ b = 6 ∨ b = 1 ∨ b = 8 ∨ b = 7 ∨ b = 3
theorem TW.low {w : World} (h : TW w) {b : Nat} (hb : tbl b) : b < w.heap.size := by
  rcases hb with rfl | rfl | rfl | rfl | rfl | rfl
  · exact cell_lt (h.r.first 0 _ rfl)
  · exact cell_lt (h.r.second 0 _ rfl)
  · exact cell_lt (h.r.base 0 _ rfl)
  · exact cell_lt (h.r.leaf 0 _ rfl)
  · exact cell_lt (h.r.tags 0 _ rfl)
  · exact cell_lt (h.r.size 0 _ rfl)
theorem TW.turn {w w' : World} {X : Nat → Prop} (h : TW w) (T : Turn X w w') (hn : ∀ b, tbl b → ¬ X b) : TW w' :=
  ⟨⟨⟨⟨h.r.first.turn T (hn _ (by simp [tbl])), h.r.second.turn T (hn _ (by simp [tbl])), h.r.base.turn T (hn _ (by simp [tbl])), h.r.leaf.turn T (hn _ (by simp [tbl]))⟩, h.r.tags.turn T (hn _ (by simp [tbl]))⟩, h.r.size.turn T (hn _ (by simp [tbl]))⟩⟩
theorem TW.below {w w' : World} (h : TW w) (hb : Below w.heap.size w w') : TW w' := h.turn (X := fun _ => False) (Turn.below hb) (fun _ _ h => h)
/-- Of what may turn in a call that asks the memory. -/
def hot (H : Nat) (Z : Nat → Prop) : Nat → Prop := fun b => Z b ∧ H ≤ b
/-- A memory that is asked through an interface: its state tells what it was asked for; Z: the blocks that are its own. -/
structure Asker (H : Nat) (M : Mo) (iv : Value) (St : List Int → (Nat → Prop) → World → Prop) : Prop where
  ok : M.Ok
  ask : ∀ L Z w pa, L.length ≤ 8 → 0 ≤ pa → pa < 18446744073709551616 → St L Z w → Calls Tryz.prog 99 #[iv, .int .u64 pa] w fun e w' => e = .returned (.tuple #[.int .u32 (M.wd pa), .int .i64 (M.er pa)]) ∧ St (L ++ [pa]) (gr Z w w') w' ∧ Turn (hot H Z) w w'
  keep : ∀ {L Z w X w'}, St L Z w → Turn X w w' → (∀ b, X b → ¬ Z b) → St L Z w'
  low : ∀ {L Z w}, St L Z w → ∀ b, Z b → b < w.heap.size
  mono : ∀ {L Z Z' w}, St L Z w → (∀ b, Z b → Z' b) → (∀ b, Z' b → b < w.heap.size) → St L Z' w
  tab : ∀ {L Z w}, St L Z w → TW w
/-- Within a call: from w, with Z, on. -/
structure Fw (H : Nat) (St : List Int → (Nat → Prop) → World → Prop) (w : World) (Z : Nat → Prop) (L : List Int) (wr : World) (Zr : Nat → Prop) : Prop where
  st : St L Zr wr
  trn : Turn (hot H Z) w wr
  up : ∀ b, Z b → Zr b
  old : ∀ b, Zr b → b < w.heap.size → Z b
section
variable {H : Nat} {M : Mo} {iv : Value} {St : List Int → (Nat → Prop) → World → Prop} {w wr wn : World} {Z Zr : Nat → Prop} {L L' : List Int}
theorem Fw.start (h : St L Z w) : Fw H St w Z L w Z := ⟨h, Turn.refl _ _, fun _ h => h, fun _ h _ => h⟩
theorem Fw.below (A : Asker H M iv St) (h : Fw H St w Z L wr Zr) (hb : Below wr.heap.size wr wn) : Fw H St w Z L wn Zr :=
  ⟨A.keep h.st (Turn.below (S := fun _ => False) hb) (fun _ h => h.elim), h.trn.trans (S' := fun _ => False) (Turn.below hb) (fun _ h => h.elim), h.up, h.old⟩
theorem Fw.set (A : Asker H M iv St) (h : Fw H St w Z L wr Zr) {b : Nat} (hn : ¬ Zr b) (hb : w.heap.size ≤ b) (j : Nat) (v : Value) : Fw H St w Z L (wr.setCell ⟨b, j, none⟩ v) Zr :=
  ⟨A.keep (X := fun x => x = b) h.st ((Turn.refl (fun x => x = b) wr).setCell (p := ⟨b, j, none⟩) (.inl rfl) v) (fun x hx => by subst hx; exact hn), h.trn.setCell (p := ⟨b, j, none⟩) (.inr hb) v, h.up, h.old⟩
theorem Fw.call (h : Fw H St w Z L wr Zr) (hs : St L' (gr Zr wr wn) wn) (T : Turn (hot H Zr) wr wn) : Fw H St w Z L' wn (gr Zr wr wn) :=
  ⟨hs, h.trn.trans T (fun x hx => by
    by_cases hl : x < w.heap.size
    · exact .inl ⟨h.old x hx.1 hl, hx.2⟩
    · exact .inr (by omega)), fun b hb => .inl (h.up b hb), fun b hb hl => by
    rcases hb with hb | ⟨hb, _⟩
    · exact h.old b hb hl
    · have := h.trn.size; omega⟩
theorem Fw.fin (A : Asker H M iv St) (h : Fw H St w Z L wr Zr) : St L (gr Z w wr) wr ∧ Turn (hot H Z) w wr :=
  ⟨A.mono h.st (fun b hb => by
    by_cases hl : b < w.heap.size
    · exact .inl (h.old b hb hl)
    · exact .inr ⟨by omega, A.low h.st b hb⟩) (fun b hb => by
    rcases hb with hb | ⟨_, hb⟩
    · exact A.low h.st b (h.up b hb)
    · exact hb), h.trn⟩
/-- A box of the call's own. -/
structure Bx (wr : World) (Zr : Nat → Prop) (b : Nat) (t : TypeId) (l : List Value) : Prop where
  bl : Bl wr b t l
  nz : ¬ Zr b
theorem Bx.below {b : Nat} {t : TypeId} {l : List Value} (h : Bx wr Zr b t l) (hb : Below wr.heap.size wr wn) : Bx wn Zr b t l := ⟨h.bl.below hb, h.nz⟩
theorem Bx.call {b : Nat} {t : TypeId} {l : List Value} (h : Bx wr Zr b t l) (T : Turn (hot H Zr) wr wn) : Bx wn (gr Zr wr wn) b t l :=
  ⟨(T.block b h.bl.lt (fun hh => h.nz hh.1)).trans h.bl, fun hh => by
    rcases hh with hh | ⟨hh, _⟩
    · exact h.nz hh
    · have := h.bl.lt; omega⟩
theorem Bx.other {b b' : Nat} {t : TypeId} {l : List Value} (h : Bx wr Zr b t l) (hn : b ≠ b') (j : Nat) (v : Value) : Bx (wr.setCell ⟨b', j, none⟩ v) Zr b t l := by
  refine ⟨?_, h.nz⟩
  show (wr.setCell ⟨b', j, none⟩ v).heap[b]? = _
  rw [Below.heap_setCell _ _ _ _ hn]
  exact h.bl
theorem Bx.new (A : Asker H M iv St) (h : Fw H St w Z L wr Zr) (t : TypeId) (l : List Value) : Bx (wr.alloc (.cells l.toArray t)) Zr wr.heap.size t l :=
  ⟨Bl.new wr t l, fun hh => by have := A.low h.st _ hh; omega⟩
end
end Go.Proofs.YtnjlajjjcmhfgaaGreatDoor
namespace Go.Proofs.YtnjlajjjcmhfgaaGreatDoor
open Go.RowKit
open Mm (Turn gr RM valV errV)
set_option linter.unusedVariables false
set_option linter.unusedSimpArgs false
/-- The program's memory, asked. -/
theorem ask_ram (w : World) (S : Nat → Prop) (p N : Nat) (m : Nat → Int) (pa : Nat) (h : RM w S p N m) (hp : pa < 18446744073709551616) :
    Calls Tryz.prog 99 #[.iface 52 (.pointer (some ⟨p, 0, none⟩)), .int .u64 pa] w fun e w' => e = .returned (.tuple #[.int .u32 (valV N m pa 4), .int .i64 (errV N pa 4)]) ∧ w = w' := by
  have HW := hidW (Mm.rWord_any w S p N m pa h hp)
  generalize valV N m pa 4 = x at *
  generalize errV N pa 4 = er at *
  clear h
  go_enter Tryz.func99, Tryz.ntmps99
  go_wp2_with (first
    | (go_at_call 199; refine HW.out.mono ?_; rintro e w1 ⟨rfl, rfl⟩))
  go_ret2
  exact ⟨rfl, rfl⟩
theorem ask_nil (w : World) (pa : Int) :
    Calls Tryz.prog 99 #[.nilIface, .int .u64 pa] w fun e w' => e = .returned (.tuple #[.int .u32 0, .int .i64 30]) ∧ w = w' := by
  go_enter Tryz.func99, Tryz.ntmps99
  go_wp2
  go_ret2
  exact ⟨rfl, rfl⟩
theorem cleared_any (b : Int) (n : Nat) (w : World) (hb : 0 ≤ b ∧ b < 18446744073709551616) (hn : n ≤ 14) :
    Calls Tryz.prog 138 #[.int .u64 b, .int .i64 (n : Int)] w fun e w' => e = .returned (.int .u64 (cl b n)) ∧ w = w' := by
  have h1 := cl_le b n hb.1
  have hw : IntKind.u64.wrap (b / 2 ^ n * 2 ^ n) = cl b n := by
    unfold cl at *
    simp only [IntKind.wrap_u64]
    omega
  go_enter Tryz.func138, Tryz.ntmps138
  go_wp2
  go_ret
  exact ⟨by simp [cl], rfl⟩
theorem itself_any (va : Int) (w : World) (hv : 0 ≤ va ∧ va < 4294967296) :
    Calls Tryz.prog 60 #[.int .u32 va] w fun e w' => e = .returned (.agg #[.int .i64 (itF va).size, .int .u32 (itF va).va, .int .u64 (itF va).pa, .int .i64 (itF va).dom, .int .i64 (itF va).ap, .int .u32 (itF va).bits, .bool (itF va).ng, .bool (itF va).xn]) ∧ Below w.heap.size w w' := by
  go_enter Tryz.func60, Tryz.ntmps60
  go_wp2
  refine bodyPost_ret (v := .agg #[.int .i64 (itF va).size, .int .u32 (itF va).va, .int .u64 (itF va).pa, .int .i64 (itF va).dom, .int .i64 (itF va).ap, .int .u32 (itF va).bits, .bool (itF va).ng, .bool (itF va).xn]) (by simp [results, Tryz.results60, go_sem, itF]) rfl ⟨rfl, ?_⟩
  (repeat (first | refine Below.setCell ?_ (by simp) _ | refine Below.alloc ?_ (by simp) _)); exact Below.refl _ _
end Go.Proofs.YtnjlajjjcmhfgaaGreatDoor
namespace Go.Proofs.YtnjlajjjcmhfgaaGreatDoor
open Go.RowKit
open Mm (Turn gr RM valV errV)
set_option linter.unusedVariables false
set_option linter.unusedSimpArgs false
theorem and7 (n : Int) : bits BinOp.and IntKind.i64 n 7 = n % 8 := by
  have h127 : (BitVec.ofInt 64 7).toNat = 2 ^ 3 - 1 := by decide
  have key : (BitVec.ofInt 64 n &&& BitVec.ofInt 64 7).toNat = (n % ((2 ^ 64 : Nat) : Int)).toNat % 2 ^ 3 := by
    rw [BitVec.toNat_and, BitVec.toNat_ofInt, h127, Nat.and_two_pow_sub_one_eq_mod]
  show IntKind.i64.wrap ((BitVec.ofInt 64 n &&& BitVec.ofInt 64 7).toNat : Nat) = n % 8
  rw [key, IntKind.wrap_i64]
  omega
set_option maxRecDepth 100000 in
set_option maxHeartbeats 2000000 in
theorem firstAt_any (c : Ctx) (va : Int) (w : World) (hc : c.Ok) (hv : 0 ≤ va ∧ va < 4294967296) :
    Calls Tryz.prog 98 #[.agg #[.bool c.on, .bool c.tre, .bool c.afe, .int .i64 c.n, .bool c.pd0, .bool c.pd1, .int .u64 c.b0, .int .u64 c.b1, .int .u32 c.dacr, .int .u32 c.prrr, .int .u32 c.nmrr, .int .i64 c.asid], .int .u32 va] w fun e w' => e = .returned (.tuple #[.int .u64 (fA c va), .bool (fO c va)]) ∧ Below w.heap.size w w' := by
  have HC0 := hidW (fun w => cleared_any c.b0 (14 - nN c) w hc.b0 (by omega))
  have HC1 := hidW (fun w => cleared_any c.b1 14 w hc.b1 (by omega))
  have HB : Hid (∀ o, Below w.heap.size w (w.alloc o)) := fun o => below_new w o
  have hN := nN_lt c
  have ha : bits BinOp.and IntKind.i64 c.n 7 = (nN c : Int) := by rw [and7]; unfold nN; omega
  have hr := hidW (fA_rng c va hc hv)
  have hx := (Bl.new w 47 [.bool c.on, .bool c.tre, .bool c.afe, .int .i64 c.n, .bool c.pd0, .bool c.pd1, .int .u64 c.b0, .int .u64 c.b1, .int .u32 c.dacr, .int .u32 c.prrr, .int .u32 c.nmrr, .int .i64 c.asid]).drew
  have e14 : ((14 - nN c : Nat) : Int) = 14 - (nN c : Int) := by omega
  have e32 : (32 - (nN c : Int)).toNat = 32 - nN c := by omega
  rw [e14] at HC0
  have w14 : IntKind.i64.wrap (14 - (nN c : Int)) = 14 - (nN c : Int) := by rw [IntKind.wrap_i64]; omega
  have w32 : IntKind.i64.wrap (32 - (nN c : Int)) = 32 - (nN c : Int) := by rw [IntKind.wrap_i64]; omega
  cases hl : lw c va
  · have hq : (va / 2 ^ (32 - nN c) == 0) = false := hl
    have hfa : fA c va = cl c.b1 14 + 4 * (va / 1048576) := by unfold fA; rw [hl]; rfl
    have hfo : fO c va = !c.pd1 := by unfold fO; rw [hl]; rfl
    rw [hfa] at hr ⊢
    rw [hfo]
    generalize cl c.b1 14 = B at *
    go_enter Tryz.func98, Tryz.ntmps98
    go_wp2
    go_region_held3 (fun w' => w'.cell? ⟨w.heap.size, 7, none⟩ = some (.int .u64 c.b1) ∧ w'.cell? ⟨w.heap.size, 5, none⟩ = some (.bool c.pd1)) (exact ⟨hx.cell 7, hx.cell 5⟩) (first | (go_at_call 138; refine (HC1.out _).mono ?_; rintro e w1 ⟨rfl, rfl⟩))
    go_wp2
    have hr := hr.out
    go_ret2
    exact ⟨by rw [show IntKind.u64.wrap (4 * (va / 1048576)) = 4 * (va / 1048576) by rw [IntKind.wrap_u64]; omega, IntKind.wrap_u64]; simp; omega, below_drew (HB.out _)⟩
  · have hq : (va / 2 ^ (32 - nN c) == 0) = true := hl
    have hfa : fA c va = cl c.b0 (14 - nN c) + 4 * (va / 1048576) := by unfold fA; rw [hl]; rfl
    have hfo : fO c va = !c.pd0 := by unfold fO; rw [hl]; rfl
    rw [hfa] at hr ⊢
    rw [hfo]
    generalize cl c.b0 (14 - nN c) = B at *
    go_enter Tryz.func98, Tryz.ntmps98
    go_wp2
    go_region_held3 (fun w' => w'.cell? ⟨w.heap.size, 6, none⟩ = some (.int .u64 c.b0) ∧ w'.cell? ⟨w.heap.size, 4, none⟩ = some (.bool c.pd0)) (exact ⟨hx.cell 6, hx.cell 4⟩) (first | (go_at_call 138; refine (HC0.out _).mono ?_; rintro e w1 ⟨rfl, rfl⟩))
    go_wp2
    have hr := hr.out
    go_ret2
    exact ⟨by rw [show IntKind.u64.wrap (4 * (va / 1048576)) = 4 * (va / 1048576) by rw [IntKind.wrap_u64]; omega, IntKind.wrap_u64]; simp; omega, below_drew (HB.out _)⟩
end Go.Proofs.YtnjlajjjcmhfgaaGreatDoor
