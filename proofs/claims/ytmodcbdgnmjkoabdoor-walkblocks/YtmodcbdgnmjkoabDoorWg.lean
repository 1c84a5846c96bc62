import Derived.Test.YtmodcbdgnmjkoabDoorWf
namespace Go.Proofs.YtmodcbdgnmjkoabDoor
open Go.RowKit
open Mm (Turn gr PM valV errV Byts)
set_option linter.unusedVariables false
set_option linter.unusedSimpArgs false
/-- The memory that a ram is. -/
def ramMo (N : Nat) (m : Nat → Int) : Mo := ⟨fun a => valV N m a.toNat 4, fun a => errV N a 4⟩
def nilMo : Mo := ⟨fun _ => 0, fun _ => 30⟩
theorem ramMo_ok {N : Nat} {m : Nat → Int} (h : Byts m) : (ramMo N m).Ok := fun a => by
  have := Mm.valV_bd (N := N) h a.toNat 4
  exact this
theorem nilMo_ok : nilMo.Ok := fun a => ⟨Int.le_refl _, by show (0 : Int) < 4294967296; decide⟩
/-- A memory that nothing turns: a ram, or none. -/
def MemP (w : World) (S : Nat → Prop) (iv : Value) (M : Mo) : Prop :=
  (∃ p N m, iv = .iface 35 (.pointer (some ⟨p, 0, none⟩)) ∧ M = ramMo N m ∧ PM w S p N m) ∨ (iv = .nilIface ∧ M = nilMo ∧ ∀ b, ¬ S b)
theorem MemP.keep {w w' : World} {S X : Nat → Prop} {iv : Value} {M : Mo} (h : MemP w S iv M) (T : Turn X w w') (hd : ∀ b, S b → ¬ X b) : MemP w' S iv M := by
  rcases h with ⟨p, N, m, rfl, rfl, h⟩ | h
  · exact .inl ⟨p, N, m, rfl, rfl, h.keep T hd⟩
  · exact .inr h
theorem MemP.low {w : World} {S : Nat → Prop} {iv : Value} {M : Mo} (h : MemP w S iv M) : ∀ b, S b → b < w.heap.size := by
  rcases h with ⟨p, N, m, rfl, rfl, h⟩ | ⟨_, _, h⟩
  · exact h.low
  · exact fun b hb => (h b hb).elim
theorem MemP.ok {w : World} {S : Nat → Prop} {iv : Value} {M : Mo} (h : MemP w S iv M) : M.Ok := by
  rcases h with ⟨p, N, m, rfl, rfl, h⟩ | ⟨_, rfl, h⟩
  · exact ramMo_ok h.byts
  · exact nilMo_ok
theorem MemP.ask {w : World} {S : Nat → Prop} {iv : Value} {M : Mo} (h : MemP w S iv M) (pa : Int) (h0 : 0 ≤ pa) (h1 : pa < 18446744073709551616) :
    Calls Tryd.prog 58 #[iv, .int .u64 pa] w fun e w' => e = .returned (.tuple #[.int .u32 (M.wd pa), .int .i64 (M.er pa)]) ∧ w = w' := by
  rcases h with ⟨p, N, m, rfl, rfl, h⟩ | ⟨rfl, rfl, h⟩
  · have := ask_ram w S p N m pa.toNat h (by omega)
    rw [Int.toNat_of_nonneg h0] at this
    exact this
  · exact ask_nil w pa
structure Pu (S : Nat → Prop) (iv : Value) (M : Mo) (L : List Int) (Z : Nat → Prop) (w : World) : Prop where
  mem : MemP w S iv M
  sz : ∀ b, S b → Z b
  tz : ∀ b, tbl b → Z b
  low : ∀ b, Z b → b < w.heap.size
  tab : TW w
theorem asker_pure (H : Nat) {S : Nat → Prop} {iv : Value} {M : Mo} (hM : M.Ok) : Asker H M iv (Pu S iv M) where
  ok := hM
  ask := fun L Z w pa _ h0 h1 h => (h.mem.ask pa h0 h1).mono (by
    rintro e w' ⟨rfl, rfl⟩
    exact ⟨rfl, ⟨h.mem, fun b hb => .inl (h.sz b hb), fun b hb => .inl (h.tz b hb), fun b hb => by
      rcases hb with hb | ⟨_, hb⟩
      · exact h.low b hb
      · exact hb, h.tab⟩, Turn.refl _ _⟩)
  keep := fun h T hX => ⟨h.mem.keep T (fun b hb hx => hX b hx (h.sz b hb)), h.sz, h.tz, fun b hb => Nat.lt_of_lt_of_le (h.low b hb) T.size, h.tab.turn T (fun b hb hx => hX b hx (h.tz b hb))⟩
  low := fun h => h.low
  mono := fun h hZ hl => ⟨h.mem, fun b hb => hZ b (h.sz b hb), fun b hb => hZ b (h.tz b hb), hl, h.tab⟩
  tab := fun h => h.tab
/-- A walk over a memory that nothing turns. -/
theorem walk_pure (c : Ctx) (va : Int) (w : World) {S : Nat → Prop} {iv : Value} {M : Mo} (h : MemP w S iv M) (ht : TW w) (hc : c.Ok) (hv : 0 ≤ va ∧ va < 4294967296) :
    Calls Tryd.prog 14 #[iv, .agg #[.bool c.on, .bool c.tre, .bool c.afe, .int .i64 c.n, .bool c.pd0, .bool c.pd1, .int .u64 c.b0, .int .u64 c.b1, .int .u32 c.dacr, .int .u32 c.prrr, .int .u32 c.nmrr, .int .i64 c.asid], .int .u32 va] w fun e w' => e = .returned (.tuple #[.agg #[.int .i64 ((wk M c va).1).size, .int .u32 ((wk M c va).1).va, .int .u64 ((wk M c va).1).pa, .int .i64 ((wk M c va).1).dom, .int .i64 ((wk M c va).1).ap, .int .u32 ((wk M c va).1).bits, .bool ((wk M c va).1).ng, .bool ((wk M c va).1).xn], .agg #[.int .i64 ((wk M c va).2).k, .int .i64 ((wk M c va).2).l, .int .i64 ((wk M c va).2).d]]) ∧ Below w.heap.size w w' := by
  have hs : Pu S iv M [] (fun b => b < w.heap.size) w := ⟨h, h.low, fun b hb => ht.low hb, fun b hb => hb, ht⟩
  refine (walk_any (asker_pure w.heap.size h.ok) c va [] _ w hs (by simp) hc hv).mono ?_
  rintro e w' ⟨rfl, _, T⟩
  exact ⟨rfl, T.to (fun x hx => hx.2) (Nat.le_refl _)⟩
theorem first_pure (c : Ctx) (va : Int) (w : World) {S : Nat → Prop} {iv : Value} {M : Mo} (h : MemP w S iv M) (ht : TW w) (hc : c.Ok) (hv : 0 ≤ va ∧ va < 4294967296) :
    Calls Tryd.prog 28 #[iv, .agg #[.bool c.on, .bool c.tre, .bool c.afe, .int .i64 c.n, .bool c.pd0, .bool c.pd1, .int .u64 c.b0, .int .u64 c.b1, .int .u32 c.dacr, .int .u32 c.prrr, .int .u32 c.nmrr, .int .i64 c.asid], .int .u32 va] w fun e w' => e = .returned (.tuple #[.agg #[.int .i64 ((w1 M c va).1).kind, .int .u64 ((w1 M c va).1).base, .int .i64 ((w1 M c va).1).dom, .bool ((w1 M c va).1).ns, .int .i64 ((w1 M c va).1).ap, .int .u32 ((w1 M c va).1).bits, .bool ((w1 M c va).1).ng, .bool ((w1 M c va).1).xn], .agg #[.int .i64 ((w1 M c va).2).k, .int .i64 ((w1 M c va).2).l, .int .i64 ((w1 M c va).2).d]]) ∧ Below w.heap.size w w' := by
  have hs : Pu S iv M [] (fun b => b < w.heap.size) w := ⟨h, h.low, fun b hb => ht.low hb, fun b hb => hb, ht⟩
  refine (first_any (asker_pure w.heap.size h.ok) c va [] _ w hs (by simp) hc hv).mono ?_
  rintro e w' ⟨rfl, _, T⟩
  exact ⟨rfl, T.to (fun x hx => hx.2) (Nat.le_refl _)⟩
theorem second_pure (t : Ent) (va : Int) (w : World) {S : Nat → Prop} {iv : Value} {M : Mo} (h : MemP w S iv M) (ht : TW w) (hr : 0 ≤ t.base ∧ t.base < 4294967296) (hv : 0 ≤ va ∧ va < 4294967296) :
    Calls Tryd.prog 29 #[iv, .agg #[.int .i64 t.kind, .int .u64 t.base, .int .i64 t.dom, .bool t.ns, .int .i64 t.ap, .int .u32 t.bits, .bool t.ng, .bool t.xn], .int .u32 va] w fun e w' => e = .returned (.tuple #[.agg #[.int .i64 ((w2 M t va).1).size, .int .u32 ((w2 M t va).1).va, .int .u64 ((w2 M t va).1).pa, .int .i64 ((w2 M t va).1).dom, .int .i64 ((w2 M t va).1).ap, .int .u32 ((w2 M t va).1).bits, .bool ((w2 M t va).1).ng, .bool ((w2 M t va).1).xn], .agg #[.int .i64 ((w2 M t va).2).k, .int .i64 ((w2 M t va).2).l, .int .i64 ((w2 M t va).2).d]]) ∧ Below w.heap.size w w' := by
  have hs : Pu S iv M [] (fun b => b < w.heap.size) w := ⟨h, h.low, fun b hb => ht.low hb, fun b hb => hb, ht⟩
  refine (second_any (asker_pure w.heap.size h.ok) t va [] _ w hs (by simp) hr hv).mono ?_
  rintro e w' ⟨rfl, _, T⟩
  exact ⟨rfl, T.to (fun x hx => hx.2) (Nat.le_refl _)⟩
theorem MemP.below {w w' : World} {S : Nat → Prop} {iv : Value} {M : Mo} (h : MemP w S iv M) (hb : Below w.heap.size w w') : MemP w' S iv M := h.keep (X := fun _ => False) (Turn.below hb) (fun _ _ h => h)
end Go.Proofs.YtmodcbdgnmjkoabDoor
