import Derived.Test.YtmodcbdgnmjkoabGreatDoorWh
namespace Go.Proofs.YtmodcbdgnmjkoabGreatDoor
open Go.RowKit
open Mm (Turn gr valV errV Byts RowAt)
set_option linter.unusedVariables false
set_option linter.unusedSimpArgs false
set_option maxRecDepth 100000 in
set_option maxHeartbeats 2000000 in
theorem tword_any {S : Nat → Prop} {iv : Value} {M : Mo} {H tb : Nat} {L : List Int} {Z : Nat → Prop} {w : World} (h : Tl S iv M H tb L Z w) (pa : Int) (h0 : 0 ≤ pa) (h1 : pa < 18446744073709551616) (hL : L.length ≤ 8) :
    Calls Tryz.prog 118 #[.pointer (some ⟨tb, 0, none⟩), .int .u64 pa] w fun e w' => e = .returned (.tuple #[.int .u32 (M.wd pa), .int .i64 (M.er pa)]) ∧ Tl S iv M H tb (L ++ [pa]) (gr Z w w') w' ∧ Turn (hot H Z) w w' := by
  obtain ⟨v, v', wb, hb, hr, hb1, ⟨g, cap, rfl⟩, hT, T⟩ := h.add pa hL
  have HK := hidW (hT.mem.ask pa h0 h1)
  have HT := hidW (And.intro hT T)
  have c1 : w.cell? ⟨tb, 1, none⟩ = some v := hb.cell 1
  have d0 := hb1.cell
  have f0 := hb1.frozen
  have l0 := hb1.lt
  have c0 : (wb.setCell ⟨tb, 1, none⟩ (.slice (some ⟨g, 0, none⟩) (L.length + 1) cap)).cell? ⟨tb, 0, none⟩ = some iv := by
    have := (hb1.put' 1 (.slice (some ⟨g, 0, none⟩) (L.length + 1) cap)).cell 0
    simpa using this
  clear h hT T hb hb1
  go_enter Tryz.func118, Tryz.ntmps118
  go_wp2_with (first
    | (at_builtin; refine Lib.wpList_append_run _ rfl _ _ 36 36 rfl _ _ rfl rfl _ _ (hr _) ?_; clear hr)
    | (go_at_call 26; refine HK.out.mono ?_; rintro e w1 ⟨rfl, rfl⟩))
  go_ret2
  exact ⟨rfl, HT.out.1, HT.out.2⟩
theorem ask_trail {S : Nat → Prop} {iv : Value} {M : Mo} {H tb : Nat} {L : List Int} {Z : Nat → Prop} {w : World} (h : Tl S iv M H tb L Z w) (pa : Int) (h0 : 0 ≤ pa) (h1 : pa < 18446744073709551616) (hL : L.length ≤ 8) :
    Calls Tryz.prog 26 #[.iface 59 (.pointer (some ⟨tb, 0, none⟩)), .int .u64 pa] w fun e w' => e = .returned (.tuple #[.int .u32 (M.wd pa), .int .i64 (M.er pa)]) ∧ Tl S iv M H tb (L ++ [pa]) (gr Z w w') w' ∧ Turn (hot H Z) w w' := by
  have HW := hidW (tword_any h pa h0 h1 hL)
  generalize M.wd pa = x at *
  generalize M.er pa = er at *
  clear h
  go_enter Tryz.func26, Tryz.ntmps26
  go_wp2_with (first
    | (go_at_call 118; refine HW.out.mono ?_; rintro e w1 ⟨rfl, hh⟩))
  go_ret2
  exact ⟨rfl, hh⟩
theorem asker_trail (H tb : Nat) {S : Nat → Prop} {iv : Value} {M : Mo} (hM : M.Ok) : Asker H M (.iface 59 (.pointer (some ⟨tb, 0, none⟩))) (Tl S iv M H tb) where
  ok := hM
  ask := fun L Z w pa hL h0 h1 h => ask_trail h pa h0 h1 hL
  keep := fun h T hX => h.keep T hX
  low := fun h => h.low
  mono := fun h hZ hl => h.mono hZ hl
  tab := fun h => h.tab
/-- A list of addresses. -/
def Us (w : World) (v : Value) (l : List Int) : Prop := ∃ a cap, v = .slice a l.length cap ∧ ∀ i x, l[i]? = some x → ∃ g o, a = some ⟨g, o, none⟩ ∧ w.cell? ⟨g, o + i, none⟩ = some (.int .u64 x)
theorem Us.below {w w' : World} {v : Value} {l : List Int} (h : Us w v l) (hb : Below w.heap.size w w') : Us w' v l := by
  obtain ⟨a, cap, rfl, h⟩ := h
  refine ⟨a, cap, rfl, fun i x hx => ?_⟩
  obtain ⟨g, o, rfl, hc⟩ := h i x hx
  exact ⟨g, o, rfl, (hb.cell (cell_lt hc)).trans hc⟩
theorem Us.nil (w : World) : Us w (.slice none 0 0) [] := ⟨none, 0, rfl, fun i x hx => by simp at hx⟩
theorem Us.own {w : World} {lo : Nat} {v : Value} {l : List Int} (h : w.ownsRow lo 22 1 v l.length (encU l)) : Us w v l := by
  have ho := h
  rcases Mm.row_of_own h with ⟨rfl, h1, h2⟩ | ⟨g, cap, cur, rfl, a, b, c, d, e, f⟩
  · rw [List.eq_nil_of_length_eq_zero h1]
    exact Us.nil w
  · refine ⟨_, _, rfl, fun i x hx => ⟨g, 0, rfl, ?_⟩⟩
    have hlt : i < l.length := (List.getElem?_eq_some_iff.1 hx).1
    rw [Nat.zero_add]
    have := World.ownsRow.cellAt ho i (by omega)
    rw [this, encU, List.getElem?_map, hx]
    rfl
set_option maxRecDepth 100000 in
set_option maxHeartbeats 2000000 in
theorem reads_any (c : Ctx) (va : Int) (w : World) {S : Nat → Prop} {iv : Value} {M : Mo} (hm : MemP w S iv M) (ht : TW w) (hc : c.Ok) (hv : 0 ≤ va ∧ va < 4294967296) :
    Calls Tryz.prog 7 #[iv, .agg #[.bool c.on, .bool c.tre, .bool c.afe, .int .i64 c.n, .bool c.pd0, .bool c.pd1, .int .u64 c.b0, .int .u64 c.b1, .int .u32 c.dacr, .int .u32 c.prrr, .int .u32 c.nmrr, .int .i64 c.asid], .int .u32 va] w fun e w' => ∃ v, e = .returned v ∧ Us w' v (rdL M c va) ∧ Below w.heap.size w w' := by
  have b0 : Below w.heap.size w (w.alloc (.cells #[.bool c.on, .bool c.tre, .bool c.afe, .int .i64 c.n, .bool c.pd0, .bool c.pd1, .int .u64 c.b0, .int .u64 c.b1, .int .u32 c.dacr, .int .u32 c.prrr, .int .u32 c.nmrr, .int .i64 c.asid] 25)) := below_new w _
  have b1 : Below w.heap.size w ((w.alloc (.cells #[.bool c.on, .bool c.tre, .bool c.afe, .int .i64 c.n, .bool c.pd0, .bool c.pd1, .int .u64 c.b0, .int .u64 c.b1, .int .u32 c.dacr, .int .u32 c.prrr, .int .u32 c.nmrr, .int .i64 c.asid] 25)).alloc (.cells #[iv, .slice none 0 0] 61)) := Below.step b0 (below_new _ _)
  have hsz : (w.alloc (.cells #[.bool c.on, .bool c.tre, .bool c.afe, .int .i64 c.n, .bool c.pd0, .bool c.pd1, .int .u64 c.b0, .int .u64 c.b1, .int .u32 c.dacr, .int .u32 c.prrr, .int .u32 c.nmrr, .int .i64 c.asid] 25)).heap.size = w.heap.size + 1 := by simp
  have hN := Bl.new (w.alloc (.cells #[.bool c.on, .bool c.tre, .bool c.afe, .int .i64 c.n, .bool c.pd0, .bool c.pd1, .int .u64 c.b0, .int .u64 c.b1, .int .u32 c.dacr, .int .u32 c.prrr, .int .u32 c.nmrr, .int .i64 c.asid] 25)) 61 [iv, .slice none 0 0]
  rw [hsz] at hN
  have hsz2 : ((w.alloc (.cells #[.bool c.on, .bool c.tre, .bool c.afe, .int .i64 c.n, .bool c.pd0, .bool c.pd1, .int .u64 c.b0, .int .u64 c.b1, .int .u32 c.dacr, .int .u32 c.prrr, .int .u32 c.nmrr, .int .i64 c.asid] 25)).alloc (.cells #[iv, .slice none 0 0] 61)).heap.size = w.heap.size + 1 + 1 := by simp
  have hs : Tl S iv M w.heap.size (w.heap.size + 1) [] (fun b => b < w.heap.size ∨ b = w.heap.size + 1) ((w.alloc (.cells #[.bool c.on, .bool c.tre, .bool c.afe, .int .i64 c.n, .bool c.pd0, .bool c.pd1, .int .u64 c.b0, .int .u64 c.b1, .int .u32 c.dacr, .int .u32 c.prrr, .int .u32 c.nmrr, .int .i64 c.asid] 25)).alloc (.cells #[iv, .slice none 0 0] 61)) :=
    ⟨hm.below b1, fun b hb => ⟨.inl (hm.low b hb), hm.low b hb⟩, fun b hb => ⟨.inl (ht.low hb), ht.low hb⟩, fun b hb => by rw [hsz2]; omega, ht.below b1, by omega, .inr rfl, .slice none 0 0, hN, World.ownsRow_nil _ _ _ _, fun g hg => by cases hg⟩
  have HW := hidW (walk_any (asker_trail w.heap.size (w.heap.size + 1) hm.ok) c va [] _ _ hs (by simp) hc hv)
  have HB := hidW b1
  clear hs hN b0 b1
  have hiv : False ∨ iv = .nilIface := hm.imp id (fun h => h.1)
  clear hm
  rcases hiv with h | rfl
  · exact h.elim
  all_goals
    go_enter Tryz.func7, Tryz.ntmps7
    go_wp2_with fail
    go_at_call 4
    refine HW.out.mono ?_
    rintro e wa ⟨rfl, hT, T⟩
    obtain ⟨v, h1, h2, h3⟩ := hT.row
    have HE := hidW (And.intro (Us.own h2) (HB.out.trans (T.to (B := w.heap.size) (fun x hx => hx.2) HB.out.size)))
    have c1 : wa.cell? ⟨w.heap.size + 1, 1, none⟩ = some v := h1.cell 1
    clear hT T h1 h2 h3 HW
    go_wp2
    go_ret
    exact ⟨_, rfl, by simpa using HE.out.1, HE.out.2⟩
end Go.Proofs.YtmodcbdgnmjkoabGreatDoor
