import Derived.Test.YtliiblaodhcjhaaApC
namespace Go.Proofs.Ytliiblaodhcjhaa
open Go.RowKit
set_option linter.unusedVariables false

theorem mk_of {w : World} {e : TypeId} {v : Value} {la : Option Addr} {n ca t t' sz o : Nat} {m : Value} (hv : v = .slice la n ca) (hs : n ≠ 0 → ∃ g, v.ownBlock = some g) (hp : ∀ g, v.ownBlock = some g → t ≤ g ∧ g < t' ∧ la = some ⟨g, 0, none⟩) (hb : ∀ g, v.ownBlock = some g → Blk w g e (n * sz)) : Mk w e la t t' n sz o 0 m := by
  intro i hi
  obtain ⟨g, hg⟩ := hs (by omega)
  obtain ⟨h1, h2, h3⟩ := hp g hg
  exact ⟨g, h3, h1, h2, hb g hg, fun h => by omega⟩

theorem own_some {w : World} {lo n size : Nat} {e : TypeId} {v : Value} {xs : List Value} (h : w.ownsRow lo e size v n xs) : (n ≠ 0 → ∃ g, v.ownBlock = some g) ∧ ∀ g, v.ownBlock = some g → lo ≤ g ∧ g < w.heap.size ∧ ∃ ca, v = .slice (some ⟨g, 0, none⟩) n ca := by
  rcases row_of_own h with ⟨rfl, h1, h2⟩ | ⟨g, cap, cur, rfl, a, b, c, d, e1, f⟩
  · exact ⟨fun h => absurd h1 h, fun g hg => by cases hg⟩
  · exact ⟨fun _ => ⟨g, rfl⟩, fun g' hg => by cases hg; exact ⟨a, b.lt, cap, rfl⟩⟩

theorem own_at {w : World} {lo n size : Nat} {e : TypeId} {la : Option Addr} {n' ca : Nat} {xs : List Value} (h : w.ownsRow lo e size (.slice la n' ca) n xs) : ∀ g, (Value.slice la n' ca).ownBlock = some g → lo ≤ g ∧ g < w.heap.size ∧ la = some ⟨g, 0, none⟩ := by
  intro g hg
  obtain ⟨h1, h2, c, h3⟩ := (own_some h).2 g hg
  exact ⟨h1, h2, (Value.slice.inj h3).1⟩

theorem ap_make {wf wA wB wX wY w5 w6 w7 w8 : World} {la lb lx ly : Option Addr} {ca cb cx cy n r gp gq gu gw : Nat} {xa xb xx xy : List Value}
    (hA : wA.ownsRow wf.heap.size 44 3 (.slice la n ca) n xa) (hB : wB.ownsRow wA.heap.size 44 3 (.slice lb n cb) n xb) (hX : wX.ownsRow wB.heap.size 57 2 (.slice lx r cx) r xx) (hY : wY.ownsRow wX.heap.size 57 2 (.slice ly r cy) r xy)
    (s1 : wf.heap.size ≤ wA.heap.size) (s2 : wA.heap.size ≤ wB.heap.size) (s3 : wB.heap.size ≤ wX.heap.size) (s4 : wX.heap.size ≤ wY.heap.size)
    (g5 : wY.grownBy w5 (Value.slice la n ca).ownBlock) (p5 : (Value.slice la n ca).ownBlock = some gp ∨ wY.heap.size ≤ gp) (l5 : gp < w5.heap.size) (c5 : w5.cell? ⟨gp, n * 3 + 2, none⟩ = some (.int .i64 71)) (b5 : ∀ g, (Value.slice la n ca).ownBlock = some g → Blk w5 g 44 (n * 3))
    (g6 : w5.grownBy w6 (Value.slice lb n cb).ownBlock) (p6 : (Value.slice lb n cb).ownBlock = some gq ∨ w5.heap.size ≤ gq) (l6 : gq < w6.heap.size) (c6 : w6.cell? ⟨gq, (n + 1) * 3 + 2, none⟩ = some (.int .i64 74)) (b6 : ∀ g, (Value.slice lb n cb).ownBlock = some g → Blk w6 g 44 (n * 3))
    (g7 : w6.grownBy w7 (Value.slice lx r cx).ownBlock) (p7 : (Value.slice lx r cx).ownBlock = some gu ∨ w6.heap.size ≤ gu) (l7 : gu < w7.heap.size) (c7 : w7.cell? ⟨gu, r * 2, none⟩ = some (.int .u64 75)) (b7 : ∀ g, (Value.slice lx r cx).ownBlock = some g → Blk w7 g 57 (r * 2))
    (g8 : w7.grownBy w8 (Value.slice ly r cy).ownBlock) (p8 : (Value.slice ly r cy).ownBlock = some gw ∨ w7.heap.size ≤ gw) (l8 : gw < w8.heap.size) (c8 : w8.cell? ⟨gw, r * 2, none⟩ = some (.int .u64 76)) (b8 : ∀ g, (Value.slice ly r cy).ownBlock = some g → Blk w8 g 57 (r * 2)) :
    Ap w8 wf.heap.size wA.heap.size wB.heap.size wX.heap.size wY.heap.size la lb lx ly gp gq gu gw n r 0 0 := by
  have qA := own_at hA
  have qB := own_at hB
  have qX := own_at hX
  have qY := own_at hY
  have z5 := g5.size
  have z6 := g6.size
  have z7 := g7.size
  have z8 := g8.size
  have nB : ∀ g, (g < wA.heap.size ∨ wB.heap.size ≤ g) → some g ≠ (Value.slice lb n cb).ownBlock := fun g h e => by
    have := qB g e.symm
    omega
  have nX : ∀ g, (g < wB.heap.size ∨ wX.heap.size ≤ g) → some g ≠ (Value.slice lx r cx).ownBlock := fun g h e => by
    have := qX g e.symm
    omega
  have nY : ∀ g, (g < wX.heap.size ∨ wY.heap.size ≤ g) → some g ≠ (Value.slice ly r cy).ownBlock := fun g h e => by
    have := qY g e.symm
    omega
  have kp : (wf.heap.size ≤ gp ∧ gp < wA.heap.size) ∨ wY.heap.size ≤ gp := by
    rcases p5 with h | h
    · have := qA gp h
      omega
    · omega
  have kq : (wA.heap.size ≤ gq ∧ gq < wB.heap.size) ∨ wY.heap.size ≤ gq := by
    rcases p6 with h | h
    · have := qB gq h
      omega
    · omega
  have ku : (wB.heap.size ≤ gu ∧ gu < wX.heap.size) ∨ wY.heap.size ≤ gu := by
    rcases p7 with h | h
    · have := qX gu h
      omega
    · omega
  have kw : (wX.heap.size ≤ gw ∧ gw < wY.heap.size) ∨ wY.heap.size ≤ gw := by
    rcases p8 with h | h
    · have := qY gw h
      omega
    · omega
  refine ⟨⟨s1, s2, s3, s4⟩, mk_of rfl (own_some hA).1 qA (fun g hg => ?_), mk_of rfl (own_some hB).1 qB (fun g hg => ?_), mk_of rfl (own_some hX).1 qX (fun g hg => ?_), mk_of rfl (own_some hY).1 qY b8, ⟨kp, ?_⟩, ⟨kq, ?_⟩, ⟨ku, ?_⟩, ⟨kw, c8⟩⟩
  · have := qA g hg
    exact (((b5 g hg).grown g6 (nB g (by omega))).grown g7 (nX g (by omega))).grown g8 (nY g (by omega))
  · have := qB g hg
    exact ((b6 g hg).grown g7 (nX g (by omega))).grown g8 (nY g (by omega))
  · have := qX g hg
    exact (b7 g hg).grown g8 (nY g (by omega))
  · rw [cell_grown g8 (by omega) (nY gp (by omega)), cell_grown g7 (by omega) (nX gp (by omega)), cell_grown g6 l5 (nB gp (by omega))]
    exact c5
  · rw [cell_grown g8 (by omega) (nY gq (by omega)), cell_grown g7 l6 (nX gq (by omega))]
    exact c6
  · rw [cell_grown g8 l7 (nY gu (by omega))]
    exact c7
end Go.Proofs.Ytliiblaodhcjhaa
