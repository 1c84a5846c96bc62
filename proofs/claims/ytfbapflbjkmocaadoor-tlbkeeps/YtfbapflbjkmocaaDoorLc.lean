import Derived.Test.YtfbapflbjkmocaaDoorLb
namespace Go.Proofs.YtfbapflbjkmocaaDoor
open Go.RowKit
set_option linter.unusedVariables false
set_option linter.unusedSimpArgs false
/-- A row of places lies from a block's beginning on. -/
def Rs (w : World) (g : Nat) (L : List Slo) : Prop := ∀ i v, (rowS L)[i]? = some v → w.cell? ⟨g, i, none⟩ = some v
theorem Bl.rs {w : World} {g : Nat} {t : TypeId} {L : List Slo} {rest : List Value} (h : Bl w g t (rowS L ++ rest)) : Rs w g L := fun i v hv => by
  rw [h.cell, List.getElem?_append_left (List.getElem?_eq_some_iff.1 hv).1]
  exact hv
theorem Bl.rs0 {w : World} {g : Nat} {t : TypeId} {L : List Slo} (h : Bl w g t (rowS L)) : Rs w g L := fun i v hv => by rw [h.cell]; exact hv
theorem PT.rs {T : TypeId} {w : World} {p g : Nat} {L : List Slo} (h : PT T w p g L) : Rs w g L := h.row.rs0
theorem Rs.drewN {w : World} {g : Nat} {L : List Slo} (h : Rs w g L) (q : Nat) : Rs (w.drewN q) g L := fun i v hv => h i v hv
theorem Rs.below {w w' : World} {g : Nat} {L : List Slo} (h : Rs w g L) (hb : Below w.heap.size w w') : Rs w' g L := fun i v hv => (hb.cell (cell_lt (h i v hv))).trans (h i v hv)
theorem Rs.cells {w : World} {g : Nat} {l : List Slo} (h : Rs w g l) {k : Nat} {x : Slo} (hx : l[k]? = some x) :
    w.cell? ⟨g, k * 10, none⟩ = some (.bool x.full) ∧ w.cell? ⟨g, k * 10 + 1, none⟩ = some (.int .i64 x.b.asid) ∧ w.cell? ⟨g, k * 10 + 2, none⟩ = some (.int .i64 x.b.t.size) ∧ w.cell? ⟨g, k * 10 + 3, none⟩ = some (.int .u32 x.b.t.va) ∧ w.cell? ⟨g, k * 10 + 4, none⟩ = some (.int .u64 x.b.t.pa) ∧ w.cell? ⟨g, k * 10 + 5, none⟩ = some (.int .i64 x.b.t.dom) ∧ w.cell? ⟨g, k * 10 + 6, none⟩ = some (.int .i64 x.b.t.ap) ∧ w.cell? ⟨g, k * 10 + 7, none⟩ = some (.int .u32 x.b.t.bits) ∧ w.cell? ⟨g, k * 10 + 8, none⟩ = some (.bool x.b.t.ng) ∧ w.cell? ⟨g, k * 10 + 9, none⟩ = some (.bool x.b.t.xn) := by
  have e : ∀ j v, (encS x)[j]? = some v → w.cell? ⟨g, k * 10 + j, none⟩ = some v := fun j v hv => by
    refine h _ _ ?_
    have hj : j < 10 := (List.getElem?_eq_some_iff.1 hv).1
    rw [rowS_at hx j hj]
    exact hv
  exact ⟨e 0 _ rfl, e 1 _ rfl, e 2 _ rfl, e 3 _ rfl, e 4 _ rfl, e 5 _ rfl, e 6 _ rfl, e 7 _ rfl, e 8 _ rfl, e 9 _ rfl⟩
structure SX (W wr : World) (g h : Nat) (L : List Slo) : Prop where
  bel : Below W.heap.size W wr
  ra : Rs wr g L
  rb : Rs wr h L
theorem SX.drewN {W wr : World} {g h : Nat} {L : List Slo} (x : SX W wr g h L) (q : Nat) : SX W (wr.drewN q) g h L := ⟨below_drewN x.bel q, x.ra.drewN q, x.rb.drewN q⟩
set_option maxRecDepth 100000 in
set_option maxHeartbeats 4000000 in
theorem same_yes (W : World) (g h ca cb n : Nat) (L : List Slo) (ha : Rs W g L) (hb : Rs W h L) (hn : n ≤ 64) (hl : L.length = n) :
    Calls Tryd.prog 18 #[.slice (some ⟨g, 0, none⟩) n ca, .slice (some ⟨h, 0, none⟩) n cb] W fun e w' => e = .returned (.bool true) ∧ Below W.heap.size W w' := by
  have HX0 : Hid (SX W W g h L) := hidW ⟨Below.refl _ _, ha, hb⟩
  have HN : Hid (L.length = n) := hl
  clear hl ha hb
  go_enter Tryd.func18, Tryd.ntmps18
  go_wp2
  go_loopw [5] (fun i wr => ∃ k : Nat, k ≤ n ∧ i = .int .i64 k ∧ SX W wr g h L) (fun i _ => n - (intOf i).toNat)
  case atStart => exact ⟨0, by omega, rfl, HX0.out⟩
  case round =>
    obtain ⟨k, hk, rfl, hX⟩ := hrel
    have HX := hidW hX
    clear hX HX0
    by_cases hlt : k < n
    · obtain ⟨s, hs⟩ : ∃ s, L[k]? = some s := ⟨_, List.getElem?_eq_getElem (by rw [HN.out]; exact hlt)⟩
      obtain ⟨e0, e1, e2, e3, e4, e5, e6, e7, e8, e9⟩ := HX.out.ra.cells hs
      obtain ⟨x0, x1, x2, x3, x4, x5, x6, x7, x8, x9⟩ := HX.out.rb.cells hs
      have he := eqB s.b s.b
      rw [Blo.same_self] at he
      have HD := fun q => hidW (HX.out.drewN q)
      clear HX hs
      obtain ⟨fu, sb⟩ := s
      dsimp only at *
      cases fu
      · go_wp2
        go_quiet (fail)
        go_wp2
        go_roundw
        case rel => exact ⟨k + 1, by omega, by go_num, (HD _).out⟩
        case measure => simp [intOf]; omega
      · go_wp2
        go_quiet (fail)
        go_wp2
        go_roundw
        case rel => exact ⟨k + 1, by omega, by go_num, (HD _).out⟩
        case measure => simp [intOf]; omega
    · obtain rfl : k = n := by omega
      go_wp2
      go_ret
      exact ⟨rfl, HX.out.bel⟩
/-- How many places have a block. -/
def wiS (b : Blo) (s : Slo) : Bool := s.full && s.b.same b
def wiN (L : List Slo) (b : Blo) : Nat := L.countP (wiS b)
structure IX2 (W wr : World) (g : Nat) (L : List Slo) (b : Blo) : Prop where
  bel : Below W.heap.size W wr
  row : Rs wr g L
  box : Bl wr W.heap.size 29 ([.int .i64 b.asid, .int .i64 b.t.size, .int .u32 b.t.va, .int .u64 b.t.pa, .int .i64 b.t.dom, .int .i64 b.t.ap, .int .u32 b.t.bits, .bool b.t.ng, .bool b.t.xn])
theorem IX2.drewN {W wr : World} {g : Nat} {L : List Slo} {b : Blo} (x : IX2 W wr g L b) (q : Nat) : IX2 W (wr.drewN q) g L b := ⟨below_drewN x.bel q, x.row.drewN q, x.box.drewN q⟩
set_option maxRecDepth 100000 in
set_option maxHeartbeats 4000000 in
theorem within_any (W : World) (g ca n : Nat) (L : List Slo) (b : Blo) (ha : Rs W g L) (hn : n ≤ 64) (hl : L.length = n) :
    Calls Tryd.prog 17 #[.slice (some ⟨g, 0, none⟩) n ca, .agg #[.int .i64 b.asid, .int .i64 b.t.size, .int .u32 b.t.va, .int .u64 b.t.pa, .int .i64 b.t.dom, .int .i64 b.t.ap, .int .u32 b.t.bits, .bool b.t.ng, .bool b.t.xn]] W fun e w' => e = .returned (.int .i64 (wiN L b : Nat)) ∧ Below W.heap.size W w' := by
  have HX0 : Hid (IX2 W (W.alloc (.cells ([.int .i64 b.asid, .int .i64 b.t.size, .int .u32 b.t.va, .int .u64 b.t.pa, .int .i64 b.t.dom, .int .i64 b.t.ap, .int .u32 b.t.bits, .bool b.t.ng, .bool b.t.xn]).toArray 29)) g L b) := hidW ⟨below_new _ _, ha.below (below_new _ _), Bl.new _ _ _⟩
  have HN : Hid (L.length = n) := hl
  have HE := hidW (fun s : Slo => eqB s.b b)
  clear hl ha
  go_enter Tryd.func17, Tryd.ntmps17
  go_wp2
  generalize World.alloc _ _ = w0 at *
  go_loopw [5, 6] (fun c i wr => ∃ k : Nat, k ≤ n ∧ c = .int .i64 (((L.take k).countP (wiS b) : Nat) : Int) ∧ i = .int .i64 k ∧ IX2 W wr g L b) (fun _ i _ => n - (intOf i).toNat)
  case atStart => exact ⟨0, by omega, by simp, rfl, HX0.out⟩
  case round =>
    obtain ⟨k, hk, rfl, rfl, hX⟩ := hrel
    have HX := hidW hX
    clear hX HX0
    have hc : (L.take k).countP (wiS b) ≤ k := by
      have h1 := List.countP_le_length (p := wiS b) (l := L.take k)
      rw [List.length_take] at h1
      omega
    by_cases hlt : k < n
    · obtain ⟨s, hs⟩ : ∃ s, L[k]? = some s := ⟨_, List.getElem?_eq_getElem (by rw [HN.out]; exact hlt)⟩
      obtain ⟨e0, e1, e2, e3, e4, e5, e6, e7, e8, e9⟩ := HX.out.row.cells hs
      have c0 := HX.out.box.cell
      have HQ := hidW (countP_take (wiS b) hs)
      have he := HE.out s
      have HD := fun q => hidW (HX.out.drewN q)
      clear HX hs
      generalize (L.take k).countP (wiS b) = C at *
      obtain ⟨fu, sb⟩ := s
      dsimp only at *
      cases fu
      · have HQ2 : Hid ((L.take (k + 1)).countP (wiS b) = C) := hidW (by have := HQ.out; simpa [wiS] using this)
        clear HQ
        go_wp2
        go_quiet (fail)
        go_wp2
        go_roundw
        case rel => exact ⟨k + 1, by omega, by rw [HQ2.out], by go_num, (HD _).out⟩
        case measure => simp [intOf]; omega
      · cases hm : sb.same b
        · have HQ2 : Hid ((L.take (k + 1)).countP (wiS b) = C) := hidW (by have := HQ.out; simpa [wiS, hm] using this)
          rw [hm] at he
          clear HQ hm
          go_wp2
          go_quiet (fail)
          go_wp2
          go_roundw
          case rel => exact ⟨k + 1, by omega, by rw [HQ2.out], by go_num, (HD _).out⟩
          case measure => simp [intOf]; omega
        · have HQ2 : Hid ((L.take (k + 1)).countP (wiS b) = C + 1) := hidW (by have := HQ.out; simpa [wiS, hm] using this)
          rw [hm] at he
          clear HQ hm
          go_wp2
          go_quiet (fail)
          go_wp2
          go_roundw
          case rel => exact ⟨k + 1, by omega, by rw [HQ2.out]; go_num, by go_num, (HD _).out⟩
          case measure => simp [intOf]; omega
    · obtain rfl : k = n := by omega
      go_wp2
      go_ret
      exact ⟨by rw [← HN.out, List.take_length]; rfl, HX.out.bel⟩
end Go.Proofs.YtfbapflbjkmocaaDoor
