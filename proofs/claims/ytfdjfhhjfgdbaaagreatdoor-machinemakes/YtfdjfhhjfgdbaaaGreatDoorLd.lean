import Derived.Test.YtfdjfhhjfgdbaaaGreatDoorVb
namespace Go.Proofs.YtfdjfhhjfgdbaaaGreatDoor
open Go.RowKit
set_option linter.unusedVariables false
set_option linter.unusedSimpArgs false
/-- A row of places lies from a block's beginning on. -/
def Rs (w : World) (g : Nat) (L : List Slo) : Prop := ∀ i v, (rowS L)[i]? = some v → w.cell? ⟨g, i, none⟩ = some v
theorem Bl.rs {w : World} {g : Nat} {t : TypeId} {L : List Slo} {rest : List Value} (h : Bl w g t (rowS L ++ rest)) : Rs w g L := fun i v hv => by
  rw [h.cell, List.getElem?_append_left (List.getElem?_eq_some_iff.1 hv).1]
  exact hv
theorem Bl.rs0 {w : World} {g : Nat} {t : TypeId} {L : List Slo} (h : Bl w g t (rowS L)) : Rs w g L := fun i v hv => by rw [h.cell]; exact hv
theorem Rs.drewN {w : World} {g : Nat} {L : List Slo} (h : Rs w g L) (q : Nat) : Rs (w.drewN q) g L := fun i v hv => h i v hv
theorem Rs.below {w w' : World} {g : Nat} {L : List Slo} (h : Rs w g L) (hb : Below w.heap.size w w') : Rs w' g L := fun i v hv => (hb.cell (cell_lt (h i v hv))).trans (h i v hv)
theorem Rs.cells {w : World} {g : Nat} {l : List Slo} (h : Rs w g l) {k : Nat} {x : Slo} (hx : l[k]? = some x) :
    w.cell? ⟨g, k * 10, none⟩ = some (.bool x.full) ∧ w.cell? ⟨g, k * 10 + 1, none⟩ = some (.int .i64 x.b.asid) ∧ w.cell? ⟨g, k * 10 + 2, none⟩ = some (.int .i64 x.b.t.size) ∧ w.cell? ⟨g, k * 10 + 3, none⟩ = some (.int .u32 x.b.t.va) ∧ w.cell? ⟨g, k * 10 + 4, none⟩ = some (.int .u64 x.b.t.pa) ∧ w.cell? ⟨g, k * 10 + 5, none⟩ = some (.int .i64 x.b.t.dom) ∧ w.cell? ⟨g, k * 10 + 6, none⟩ = some (.int .i64 x.b.t.ap) ∧ w.cell? ⟨g, k * 10 + 7, none⟩ = some (.int .u32 x.b.t.bits) ∧ w.cell? ⟨g, k * 10 + 8, none⟩ = some (.bool x.b.t.ng) ∧ w.cell? ⟨g, k * 10 + 9, none⟩ = some (.bool x.b.t.xn) := by
  have e : ∀ j v, (encS x)[j]? = some v → w.cell? ⟨g, k * 10 + j, none⟩ = some v := fun j v hv => by
    refine h _ _ ?_
    have hj : j < 10 := (List.getElem?_eq_some_iff.1 hv).1
    rw [rowS_at hx j hj]
    exact hv
  exact ⟨e 0 _ rfl, e 1 _ rfl, e 2 _ rfl, e 3 _ rfl, e 4 _ rfl, e 5 _ rfl, e 6 _ rfl, e 7 _ rfl, e 8 _ rfl, e 9 _ rfl⟩
/-- A slice of places, whatever lies behind it. -/
def Rv (w : World) (a : Option Addr) (L : List Slo) : Prop := L = [] ∨ ∃ g, a = some ⟨g, 0, none⟩ ∧ Rs w g L
theorem Sv.rv {w : World} {a : Option Addr} {L : List Slo} (h : Sv w a L) : Rv w a L := by
  rcases h with h | ⟨g, h1, h2⟩
  · exact .inl h
  · exact .inr ⟨g, h1, h2.rs0⟩
theorem Sw.rv {w : World} {a : Option Addr} {L : List Slo} (h : Sw w a L) : Rv w a L := by
  rcases h with h | ⟨g, rest, h1, h2⟩
  · exact .inl h
  · exact .inr ⟨g, h1, h2.rs⟩
theorem Rv.below {w w' : World} {a : Option Addr} {L : List Slo} (h : Rv w a L) (hb : Below w.heap.size w w') : Rv w' a L := by
  rcases h with h | ⟨g, h1, h2⟩
  · exact .inl h
  · exact .inr ⟨g, h1, h2.below hb⟩
theorem Rv.nil (w : World) (a : Option Addr) : Rv w a [] := .inl rfl
structure SLX (W wr : World) (g h : Nat) (L : List Slo) : Prop where
  bel : Below W.heap.size W wr
  ra : Rs wr g L
  rb : Rs wr h L
theorem SLX.drewN {W wr : World} {g h : Nat} {L : List Slo} (x : SLX W wr g h L) (q : Nat) : SLX W (wr.drewN q) g h L := ⟨below_drewN x.bel q, x.ra.drewN q, x.rb.drewN q⟩
set_option maxRecDepth 100000 in
set_option maxHeartbeats 4000000 in
theorem slots_nil (W : World) (a b : Option Addr) (ca cb : Nat) : Calls Tryz.prog 16 #[.slice a 0 ca, .slice b 0 cb] W fun e w' => e = .returned (.bool true) ∧ Below W.heap.size W w' := by
  go_enter Tryz.func16, Tryz.ntmps16
  go_wp2
  go_loopw [5] (fun i wr => i = .int .i64 0 ∧ W = wr) (fun i _ => 0)
  case atStart => exact ⟨rfl, rfl⟩
  case round =>
    obtain ⟨rfl, rfl⟩ := hrel
    go_wp2
    go_ret
    exact ⟨rfl, Below.refl _ _⟩
set_option maxRecDepth 100000 in
set_option maxHeartbeats 4000000 in
theorem slots_row (W : World) (g h ca cb n : Nat) (L : List Slo) (ha : Rs W g L) (hb : Rs W h L) (hn : n ≤ 64) (hl : L.length = n) :
    Calls Tryz.prog 16 #[.slice (some ⟨g, 0, none⟩) n ca, .slice (some ⟨h, 0, none⟩) n cb] W fun e w' => e = .returned (.bool true) ∧ Below W.heap.size W w' := by
  have HX0 : Hid (SLX W W g h L) := hidW ⟨Below.refl _ _, ha, hb⟩
  have HN : Hid (L.length = n) := hl
  clear hl ha hb
  go_enter Tryz.func16, Tryz.ntmps16
  go_wp2
  go_loopw [5] (fun i wr => ∃ k : Nat, k ≤ n ∧ i = .int .i64 k ∧ SLX W wr g h L) (fun i _ => n - (intOf i).toNat)
  case atStart => exact ⟨0, by omega, rfl, HX0.out⟩
  case round =>
    obtain ⟨k, hk, rfl, hX⟩ := hrel
    have HX := hidW hX
    clear hX HX0
    by_cases hlt : k < n
    · obtain ⟨s, hs⟩ : ∃ s, L[k]? = some s := ⟨_, List.getElem?_eq_getElem (by rw [HN.out]; exact hlt)⟩
      obtain ⟨e0, e1, e2, e3, e4, e5, e6, e7, e8, e9⟩ := HX.out.ra.cells hs
      obtain ⟨x0, x1, x2, x3, x4, x5, x6, x7, x8, x9⟩ := HX.out.rb.cells hs
      have he := eqS s s
      rw [Slo.same_self] at he
      have HD := fun q => hidW (HX.out.drewN q)
      clear HX hs
      obtain ⟨fu, sb⟩ := s
      dsimp only at *
      go_wp2
      go_quiet (fail)
      go_wp2
      go_roundw
      case rel => exact ⟨k + 1, by omega, by go_num, (HD _).out⟩
      case measure => simp [intOf]; omega
    · obtain rfl : k = n := by omega
      go_wp2
      go_ret
      exact ⟨rfl, HX.out.bel⟩
theorem slots_yes (W : World) (a b : Option Addr) (ca cb : Nat) (L : List Slo) (ha : Rv W a L) (hb : Rv W b L) (hn : L.length ≤ 64) :
    Calls Tryz.prog 16 #[.slice a L.length ca, .slice b L.length cb] W fun e w' => e = .returned (.bool true) ∧ Below W.heap.size W w' := by
  rcases ha with h | ⟨g, rfl, ha⟩
  · subst h; exact slots_nil W a b ca cb
  · rcases hb with h | ⟨k, rfl, hb⟩
    · subst h; exact slots_nil W _ b ca cb
    · exact slots_row W g k ca cb L.length L ha hb hn rfl
theorem plH_le {TH T : TypeId} {z : List Value} {w : World} {A : Ad} {X : Hi} (h : PH TH T z w A X) (k : Int) : (plH X k).length ≤ 64 := by
  unfold plH
  split
  · exact h.ti.hi
  · split
    · exact h.td.hi
    · split
      · exact h.tm.hi
      · simp
end Go.Proofs.YtfdjfhhjfgdbaaaGreatDoor
