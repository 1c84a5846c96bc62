import Derived.Test.YtmodcbdgnmjkoaaDoorWi
namespace Go.Proofs.YtmodcbdgnmjkoaaDoor
open Go.RowKit
open Mm (Turn gr PM valV errV Byts RowAt)
set_option linter.unusedVariables false
set_option linter.unusedSimpArgs false
/-- A list of addresses that lies in new memory. -/
def Usl (lo : Nat) (w : World) (v : Value) (l : List Int) : Prop := ∃ a cap, v = .slice a l.length cap ∧ ∀ i x, l[i]? = some x → ∃ g o, a = some ⟨g, o, none⟩ ∧ lo ≤ g ∧ w.cell? ⟨g, o + i, none⟩ = some (.int .u64 x)
theorem Usl.below {lo : Nat} {w w' : World} {v : Value} {l : List Int} (h : Usl lo w v l) (hb : Below w.heap.size w w') : Usl lo w' v l := by
  obtain ⟨a, cap, rfl, h⟩ := h
  refine ⟨a, cap, rfl, fun i x hx => ?_⟩
  obtain ⟨g, o, rfl, hg, hc⟩ := h i x hx
  exact ⟨g, o, rfl, hg, (hb.cell (cell_lt hc)).trans hc⟩
theorem Usl.turn {lo : Nat} {w w' : World} {v : Value} {l : List Int} {S : Nat → Prop} (h : Usl lo w v l) (T : Turn S w w') (hS : ∀ b, S b → b < lo) : Usl lo w' v l := by
  obtain ⟨a, cap, rfl, h⟩ := h
  refine ⟨a, cap, rfl, fun i x hx => ?_⟩
  obtain ⟨g, o, rfl, hg, hc⟩ := h i x hx
  exact ⟨g, o, rfl, hg, (T.cell (cell_lt hc) (fun hs => by have := hS g hs; omega) _).trans hc⟩
theorem Usl.nil (lo : Nat) (w : World) : Usl lo w (.slice none 0 0) [] := ⟨none, 0, rfl, fun i x hx => by simp at hx⟩
theorem Usl.own {lo lo' : Nat} {w : World} {v : Value} {l : List Int} (h : w.ownsRow lo' 23 1 v l.length (encU l)) (hl : lo ≤ lo') : Usl lo w v l := by
  have ho := h
  rcases Mm.row_of_own h with ⟨rfl, h1, h2⟩ | ⟨g, cap, cur, rfl, a, b, c, d, e, f⟩
  · rw [List.eq_nil_of_length_eq_zero h1]
    exact Usl.nil lo w
  · refine ⟨_, _, rfl, fun i x hx => ⟨g, 0, rfl, by omega, ?_⟩⟩
    have hlt : i < l.length := (List.getElem?_eq_some_iff.1 hx).1
    rw [Nat.zero_add]
    have := World.ownsRow.cellAt ho i (by omega)
    rw [this, encU, List.getElem?_map, hx]
    rfl
set_option maxRecDepth 100000 in
set_option maxHeartbeats 2000000 in
theorem reads_own (c : Ctx) (va : Int) (w : World) {S : Nat → Prop} {iv : Value} {M : Mo} (hm : MemP w S iv M) (ht : TW w) (hc : c.Ok) (hv : 0 ≤ va ∧ va < 4294967296) :
    Calls Tryd.prog 12 #[iv, .agg #[.bool c.on, .bool c.tre, .bool c.afe, .int .i64 c.n, .bool c.pd0, .bool c.pd1, .int .u64 c.b0, .int .u64 c.b1, .int .u32 c.dacr, .int .u32 c.prrr, .int .u32 c.nmrr, .int .i64 c.asid], .int .u32 va] w fun e w' => ∃ v, e = .returned v ∧ Usl w.heap.size w' v (rdL M c va) ∧ Below w.heap.size w w' := by
  have b0 : Below w.heap.size w (w.alloc (.cells #[.bool c.on, .bool c.tre, .bool c.afe, .int .i64 c.n, .bool c.pd0, .bool c.pd1, .int .u64 c.b0, .int .u64 c.b1, .int .u32 c.dacr, .int .u32 c.prrr, .int .u32 c.nmrr, .int .i64 c.asid] 26)) := below_new w _
  have b1 : Below w.heap.size w ((w.alloc (.cells #[.bool c.on, .bool c.tre, .bool c.afe, .int .i64 c.n, .bool c.pd0, .bool c.pd1, .int .u64 c.b0, .int .u64 c.b1, .int .u32 c.dacr, .int .u32 c.prrr, .int .u32 c.nmrr, .int .i64 c.asid] 26)).alloc (.cells #[iv, .slice none 0 0] 85)) := Below.step b0 (below_new _ _)
  have hsz : (w.alloc (.cells #[.bool c.on, .bool c.tre, .bool c.afe, .int .i64 c.n, .bool c.pd0, .bool c.pd1, .int .u64 c.b0, .int .u64 c.b1, .int .u32 c.dacr, .int .u32 c.prrr, .int .u32 c.nmrr, .int .i64 c.asid] 26)).heap.size = w.heap.size + 1 := by simp
  have hN := Bl.new (w.alloc (.cells #[.bool c.on, .bool c.tre, .bool c.afe, .int .i64 c.n, .bool c.pd0, .bool c.pd1, .int .u64 c.b0, .int .u64 c.b1, .int .u32 c.dacr, .int .u32 c.prrr, .int .u32 c.nmrr, .int .i64 c.asid] 26)) 85 [iv, .slice none 0 0]
  rw [hsz] at hN
  have hsz2 : ((w.alloc (.cells #[.bool c.on, .bool c.tre, .bool c.afe, .int .i64 c.n, .bool c.pd0, .bool c.pd1, .int .u64 c.b0, .int .u64 c.b1, .int .u32 c.dacr, .int .u32 c.prrr, .int .u32 c.nmrr, .int .i64 c.asid] 26)).alloc (.cells #[iv, .slice none 0 0] 85)).heap.size = w.heap.size + 1 + 1 := by simp
  have hs : Tl S iv M w.heap.size (w.heap.size + 1) [] (fun b => b < w.heap.size ∨ b = w.heap.size + 1) ((w.alloc (.cells #[.bool c.on, .bool c.tre, .bool c.afe, .int .i64 c.n, .bool c.pd0, .bool c.pd1, .int .u64 c.b0, .int .u64 c.b1, .int .u32 c.dacr, .int .u32 c.prrr, .int .u32 c.nmrr, .int .i64 c.asid] 26)).alloc (.cells #[iv, .slice none 0 0] 85)) :=
    ⟨hm.below b1, fun b hb => ⟨.inl (hm.low b hb), hm.low b hb⟩, fun b hb => ⟨.inl (ht.low hb), ht.low hb⟩, fun b hb => by rw [hsz2]; omega, ht.below b1, by omega, .inr rfl, .slice none 0 0, hN, World.ownsRow_nil _ _ _ _, fun g hg => by cases hg⟩
  have HW := hidW (walk_any (asker_trail w.heap.size (w.heap.size + 1) hm.ok) c va [] _ _ hs (by simp) hc hv)
  have HB := hidW b1
  clear hs hN b0 b1
  have hiv : (∃ p : Nat, iv = .iface 30 (.pointer (some ⟨p, 0, none⟩))) ∨ iv = .nilIface := by
    rcases hm with ⟨p, _, _, h, _⟩ | h
    · exact .inl ⟨p, h⟩
    · exact .inr h.1
  clear hm
  rcases hiv with ⟨p, rfl⟩ | rfl
  all_goals
    go_enter Tryd.func12, Tryd.ntmps12
    go_wp2_with fail
    go_at_call 11
    refine HW.out.mono ?_
    rintro e wa ⟨rfl, hT, T⟩
    obtain ⟨v, h1, h2, h3⟩ := hT.row
    have HE := hidW (And.intro (Usl.own (lo := w.heap.size) h2 (by omega)) (HB.out.trans (T.to (B := w.heap.size) (fun x hx => hx.2) HB.out.size)))
    have c1 : wa.cell? ⟨w.heap.size + 1, 1, none⟩ = some v := h1.cell 1
    clear hT T h1 h2 h3 HW
    go_wp2
    go_ret
    exact ⟨_, rfl, by simpa using HE.out.1, HE.out.2⟩
end Go.Proofs.YtmodcbdgnmjkoaaDoor
